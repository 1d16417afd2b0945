import PyProof.Rows.All
import Wide.All
import OpenK.AllK
import Wide.FinOn
import HandS.ForMost
import HandS.ForExc
import HandS.IsInst
import HandS.NoneIn
import HandS.Wide
import HandS.Deep
import HandS.Defaults
import HandS.TryMany
import HandS.Nested
import HandS.TupAny
import HandS.Style
import PySem.Challenge.RW_latebound_k04_definitions_given
import HandS.TupSets
import KE.SortData
import HandS.SortKw
import KE.DataMinMax
import HandS.Dict
import HandS.Star
import PyProof.StrBlock2
import KE.LtData
import HandS.Text
import HandS.Iter
import HandS.TupMul
import HandS.SetFor
import HandS.Strs
import HandS.Lambda
import KE.KLam
import KE.SortKeyHeap
import KE.KExcInit
import KE.KExcIs
import HandS.ExcField
import HandS.ExcValue
import HandS.EndBits
import KE.RegKTryMore
import KE.KNestM
set_option Elab.async false
set_option linter.all false
set_option maxRecDepth 100000
set_option maxHeartbeats 2000000
/-! Tr: readings over trees: a layer over HandS where values are data trees (PyData), and a local list that nobody else holds is a slot of its own. -/
namespace Tr
open PySem PySem.Spec PyProof.Rows L2

/-- the tables of code objects that grow while the law runs: each with the names of what it holds -/
class Tabbed where
  T : List NdefX.NTab
/-- the address of such a table -/
def Tb [Tabbed] (b : Addr) : Prop := ∃ p ∈ Tabbed.T, p.1 = b
/-- the tables are as they should be -/
abbrev CodeTabs [Tabbed] (H : Hp) : Prop := NdefX.TabsN Tabbed.T H
variable [Tabbed]
theorem CodeTabs.tbl {H : Hp} (h : CodeTabs H) {b : Addr} (hb : Tb b) : ∃ ps, H b = some (.tbl ps) := by
  obtain ⟨p, hp, rfl⟩ := hb
  obtain ⟨ps, h1, _⟩ := h p hp
  exact ⟨ps, h1⟩
theorem CodeTabs.nl {H : Hp} (h : CodeTabs H) {b : Addr} {vs : List V} (e : H b = some (.lst vs)) : ¬ Tb b := fun hb => by
  obtain ⟨ps, h1⟩ := h.tbl hb
  rw [e] at h1
  cases h1
/-- a list is changed -/
theorem CodeTabs.but {H H' : Hp} (h : CodeTabs H) {a : Addr} {vs : List V} (e : H a = some (.lst vs)) (k : ∀ b o, b ≠ a → H b = some o → H' b = some o) : CodeTabs H' := fun p hp => by
  obtain ⟨ps, h1, h2, h3⟩ := h p hp
  refine ⟨ps, k _ _ (fun z => ?_) h1, h2, fun pos cv hc => ?_⟩
  · rw [z, e] at h1
    cases h1
  · obtain ⟨c, e1, e2⟩ := h3 pos cv hc
    refine ⟨c, e1, k _ _ (fun z => ?_) e2⟩
    rw [z, e] at e2
    cases e2
theorem CodeTabs.same {H H' : Hp} (h : CodeTabs H) (k : ∀ b o, H b = some o → H' b = some o) : CodeTabs H' := NdefX.TabsN.ext h k

/-- a list that is read, its object told in full -/
def SqQ (K : PySem.W.Frag) (H : Hp) (a : Addr) (xs : List V) : Prop :=
  Rd H a (.lst xs) ∨ ∃ (its : List Value) (n : Nat), K.lookup a = some { cls := .type "list", data := .seq its.toArray n } ∧ its.length ≤ sizeLine ∧ Vals xs its
theorem SqQ.of {K : PySem.W.Frag} {H : Hp} {a : Addr} {xs : List V} (h : H a = some (.lst xs)) : SqQ K H a xs := .inl (.inl h)
theorem SqQ.l {K : PySem.W.Frag} {H : Hp} {a : Addr} {xs : List V} (h : SqQ K H a xs) : SqL K H a xs := by
  rcases h with h | ⟨its, n, h1, h2, h3⟩
  · exact .inl h
  · exact .inr ⟨_, its.toArray, n, h1, rfl, rfl, rfl, by simpa using h2, by simpa using h3⟩
/-! a value is a tree -/
mutual
inductive Dq (K : PySem.W.Frag) (H : Hp) : V → PyData → Prop
  | non : Dq K H .non .none
  | bl (b : Bool) : Dq K H (.bl b) (.bool b)
  | int (i : Int) : Dq K H (.int i) (.int i)
  | str (x : Str) : Dq K H (.str x) (.str x)
  | lst {a : Addr} {xs : List V} {ds : List PyData} : SqQ K H a xs → DqAll K H xs ds → Dq K H (.ref a) (.list ds)
  | tup {a : Addr} {xs : List V} {ds : List PyData} : SqT K H a xs → DqAll K H xs ds → Dq K H (.ref a) (.tuple ds)
inductive DqAll (K : PySem.W.Frag) (H : Hp) : List V → List PyData → Prop
  | nil : DqAll K H [] []
  | cons {v : V} {vs : List V} {d : PyData} {ds : List PyData} : Dq K H v d → DqAll K H vs ds → DqAll K H (v :: vs) (d :: ds)
end
mutual
theorem dq_p {K : PySem.W.Frag} {H : Hp} : ∀ (d : PyData) (v : V), Dq K H v d → Dp K H v d
  | .none, _, h => by cases h; exact .non
  | .bool b, _, h => by cases h; exact .bl b
  | .int i, _, h => by cases h; exact .int i
  | .str x, _, h => by cases h; exact .str x
  | .list ds, _, h => by
    cases h with
    | lst hs ha => exact .lst hs.l (dqAll_p ds _ ha)
  | .tuple ds, _, h => by
    cases h with
    | tup hs ha => exact .tup hs (dqAll_p ds _ ha)
  | .dict _, _, h => by cases h
theorem dqAll_p {K : PySem.W.Frag} {H : Hp} : ∀ (ds : List PyData) (vs : List V), DqAll K H vs ds → DpAll K H vs ds
  | [], _, h => by cases h; exact .nil
  | d :: ds, _, h => by
    cases h with
    | cons h1 h2 => exact .cons (dq_p d _ h1) (dqAll_p ds _ h2)
end
theorem Dq.p {K : PySem.W.Frag} {H : Hp} {d : PyData} {v : V} (h : Dq K H v d) : Dp K H v d := dq_p d v h
theorem DqAll.p {K : PySem.W.Frag} {H : Hp} {ds : List PyData} {vs : List V} (h : DqAll K H vs ds) : DpAll K H vs ds := dqAll_p ds vs h
/-- what a slot of the def holds: nothing known; a tree that stands still; a list that this slot alone holds (m: it was handed in, to be changed) -/
inductive Sl where
  | un
  | val (d : PyData)
  | own (m : Bool) (ds : List PyData)
  | dic (m : List (Str × PyData))
abbrev En := List Sl

/-- a dict that stands still: texts to trees -/
def DicIs (K : PySem.W.Frag) (S : Hp) (v : V) (m : List (Str × PyData)) : Prop := ∃ (a : Addr) (kvs : List (Key × V)), v = .ref a ∧ S a = some (.dK kvs) ∧ kvs.map Prod.fst = m.map (fun p => (Sum.inr p.1 : Key)) ∧ DqAll K S (kvs.map Prod.snd) (m.map Prod.snd)
/-- the entry of a def: the heap, who may be changed, the still part -/
structure Fm where
  H0 : Hp
  M : Addr → Prop
  S0 : Hp

structure Rep (K : PySem.W.Frag) (F : Fm) (S H : Hp) (σ : L2.St) (ρ : En) : Prop where
  sub : Same S H
  s0 : Same F.S0 S
  fresh : ∀ b, F.S0 b = none → S b ≠ none → F.H0 b = none
  keep : ∀ b o, F.H0 b = some o → ¬ F.M b → H b = some o
  m0 : ∀ b, F.M b → F.H0 b ≠ none
  mt : ∀ b, F.M b → H b ≠ none ∧ S b = none
  tok : CodeTabs H
  tfree : ∀ b, Tb b → F.M b
  len : σ.length = ρ.length
  at_ : ∀ (i : Nat) (d : PyData), ρ[i]? = some (.val d) → ∃ v, σ[i]? = some (some v) ∧ Dq K S v d
  own : ∀ (i : Nat) (m : Bool) (ds : List PyData), ρ[i]? = some (.own m ds) → ∃ (a : Addr) (vs : List V), σ[i]? = some (some (.ref a)) ∧ H a = some (.lst vs) ∧ S a = none ∧ DqAll K S vs ds ∧ (if m = true then F.M a else F.H0 a = none)
  apart : ∀ (i j : Nat) (m n : Bool) (ds es : List PyData), i ≠ j → ρ[i]? = some (.own m ds) → ρ[j]? = some (.own n es) → σ[i]? ≠ σ[j]?
  dic : ∀ (i : Nat) (m : List (Str × PyData)), ρ[i]? = some (.dic m) → ∃ v, σ[i]? = some (some v) ∧ DicIs K S v m

/-! ### trees in a growing heap -/
theorem same_sqQ {K : PySem.W.Frag} {S S' : Hp} {a : Addr} {xs : List V} (e : Same S S') (h : SqQ K S a xs) : SqQ K S' a xs := by
  rcases h with (h | ⟨o, h⟩) | h
  · exact .inl (.inl (e _ _ h))
  · exact .inl (.inr ⟨o, e _ _ h⟩)
  · exact .inr h
theorem same_sqL {K : PySem.W.Frag} {S S' : Hp} {a : Addr} {xs : List V} (e : Same S S') (h : SqQ K S a xs) : SqL K S' a xs := (same_sqQ e h).l
theorem same_sqT {K : PySem.W.Frag} {S S' : Hp} {a : Addr} {xs : List V} (e : Same S S') (h : SqT K S a xs) : SqT K S' a xs := by
  rcases h with (h | ⟨o, h⟩) | h
  · exact .inl (.inl (e _ _ h))
  · exact .inl (.inr ⟨o, e _ _ h⟩)
  · exact .inr h
mutual
theorem dp_mono {K : PySem.W.Frag} {S S' : Hp} (e : Same S S') : ∀ (d : PyData) (v : V), Dq K S v d → Dq K S' v d
  | .none, _, h => by cases h; exact .non
  | .bool b, _, h => by cases h; exact .bl b
  | .int i, _, h => by cases h; exact .int i
  | .str x, _, h => by cases h; exact .str x
  | .list ds, _, h => by
    cases h with
    | lst hs ha => exact .lst (same_sqQ e hs) (dpAll_mono e ds _ ha)
  | .tuple ds, _, h => by
    cases h with
    | tup hs ha => exact .tup (same_sqT e hs) (dpAll_mono e ds _ ha)
  | .dict _, _, h => by cases h
theorem dpAll_mono {K : PySem.W.Frag} {S S' : Hp} (e : Same S S') : ∀ (ds : List PyData) (vs : List V), DqAll K S vs ds → DqAll K S' vs ds
  | [], _, h => by cases h; exact .nil
  | d :: ds, _, h => by
    cases h with
    | cons h1 h2 => exact .cons (dp_mono e d _ h1) (dpAll_mono e ds _ h2)
end
theorem dic_mono {K : PySem.W.Frag} {S S' : Hp} {v : V} {m : List (Str × PyData)} (e : Same S S') (h : DicIs K S v m) : DicIs K S' v m := by
  obtain ⟨a, kvs, h1, h2, h3, h4⟩ := h
  exact ⟨a, kvs, h1, e _ _ h2, h3, dpAll_mono e _ _ h4⟩
theorem DqAll.len {K : PySem.W.Frag} {S : Hp} : ∀ {vs : List V} {ds : List PyData}, DqAll K S vs ds → vs.length = ds.length
  | _, [], h => by cases h; rfl
  | _, d :: ds, h => by
    cases h with
    | cons _ h2 => rw [List.length_cons, List.length_cons, DqAll.len h2]
theorem DqAll.at {K : PySem.W.Frag} {S : Hp} : ∀ {vs : List V} {ds : List PyData} {i : Nat} {d : PyData}, DqAll K S vs ds → ds[i]? = some d → ∃ v, vs[i]? = some v ∧ Dq K S v d
  | _, [], i, _, _, e => by simp at e
  | _, x :: ds, 0, d, h, e => by
    cases h with
    | cons h1 _ =>
      simp at e
      subst e
      exact ⟨_, rfl, h1⟩
  | _, x :: ds, i + 1, d, h, e => by
    cases h with
    | cons _ h2 =>
      obtain ⟨v, h3, h4⟩ := DqAll.at (i := i) h2 (by simpa using e)
      exact ⟨v, by simpa using h3, h4⟩
theorem DqAll.at' {K : PySem.W.Frag} {S : Hp} {vs : List V} {ds : List PyData} {i : Nat} {v : V} (h : DqAll K S vs ds) (e : vs[i]? = some v) : ∃ d, ds[i]? = some d ∧ Dq K S v d := by
  have hi : i < ds.length := by
    rw [← h.len]
    exact (List.getElem?_eq_some_iff.mp e).1
  obtain ⟨w, h1, h2⟩ := h.at (List.getElem?_eq_getElem hi)
  rw [e] at h1
  cases h1
  exact ⟨_, List.getElem?_eq_getElem hi, h2⟩
theorem DqAll.snoc {K : PySem.W.Frag} {S : Hp} : ∀ {vs : List V} {ds : List PyData} {v : V} {d : PyData}, DqAll K S vs ds → Dq K S v d → DqAll K S (vs ++ [v]) (ds ++ [d])
  | _, [], _, _, h, q => by cases h; exact .cons q .nil
  | _, x :: ds, _, _, h, q => by
    cases h with
    | cons h1 h2 => exact .cons h1 (DqAll.snoc h2 q)
theorem DqAll.append {K : PySem.W.Frag} {S : Hp} : ∀ {vs : List V} {ds : List PyData} {ws : List V} {es : List PyData}, DqAll K S vs ds → DqAll K S ws es → DqAll K S (vs ++ ws) (ds ++ es)
  | _, [], _, _, h, q => by cases h; exact q
  | _, x :: ds, _, _, h, q => by
    cases h with
    | cons h1 h2 => exact .cons h1 (DqAll.append h2 q)
theorem DqAll.take {K : PySem.W.Frag} {S : Hp} : ∀ {vs : List V} {ds : List PyData} (n : Nat), DqAll K S vs ds → DqAll K S (vs.take n) (ds.take n)
  | _, _, 0, _ => .nil
  | _, [], n + 1, h => by cases h; exact .nil
  | _, x :: ds, n + 1, h => by
    cases h with
    | cons h1 h2 => exact .cons h1 (DqAll.take n h2)
theorem DqAll.drop {K : PySem.W.Frag} {S : Hp} : ∀ {vs : List V} {ds : List PyData} (n : Nat), DqAll K S vs ds → DqAll K S (vs.drop n) (ds.drop n)
  | _, _, 0, h => h
  | _, [], n + 1, h => by cases h; exact .nil
  | _, x :: ds, n + 1, h => by
    cases h with
    | cons h1 h2 => exact DqAll.drop n h2
theorem DqAll.set {K : PySem.W.Frag} {S : Hp} : ∀ {vs : List V} {ds : List PyData} {v : V} {d : PyData} (n : Nat), DqAll K S vs ds → Dq K S v d → DqAll K S (vs.set n v) (ds.set n d)
  | _, [], _, _, n, h, _ => by cases h; exact .nil
  | _, x :: ds, _, _, 0, h, q => by
    cases h with
    | cons h1 h2 => exact .cons q h2
  | _, x :: ds, _, _, n + 1, h, q => by
    cases h with
    | cons h1 h2 => exact .cons h1 (DqAll.set n h2 q)
theorem DqAll.eraseIdx {K : PySem.W.Frag} {S : Hp} : ∀ {vs : List V} {ds : List PyData} (n : Nat), DqAll K S vs ds → DqAll K S (vs.eraseIdx n) (ds.eraseIdx n)
  | _, [], n, h => by cases h; exact .nil
  | _, x :: ds, 0, h => by
    cases h with
    | cons h1 h2 => exact h2
  | _, x :: ds, n + 1, h => by
    cases h with
    | cons h1 h2 => exact .cons h1 (DqAll.eraseIdx n h2)
theorem DqAll.reverse {K : PySem.W.Frag} {S : Hp} : ∀ {vs : List V} {ds : List PyData}, DqAll K S vs ds → DqAll K S vs.reverse ds.reverse
  | _, [], h => by cases h; exact .nil
  | _, x :: ds, h => by
    cases h with
    | cons h1 h2 =>
      rw [List.reverse_cons, List.reverse_cons]
      exact DqAll.snoc (DqAll.reverse h2) h1

theorem same_new {H : Hp} {p : Addr} {o : HO} (h : H p = none) : Same H (upd H p o) := fun b x e => by
  rw [upd_ne (ne_of_none e h)]
  exact e
theorem same_upd2 {S H : Hp} {p : Addr} {o : HO} (h : Same S H) : Same (upd S p o) (upd H p o) := fun b x e => by
  by_cases hb : b = p
  · subst hb
    rw [upd_same] at e ⊢
    exact e
  · rw [upd_ne hb] at e ⊢
    exact h b x e
theorem same_none {S H : Hp} {p : Addr} (h : Same S H) (n : H p = none) : S p = none := by
  cases e : S p with
  | none => rfl
  | some o =>
    rw [h p o e] at n
    cases n

section
variable {K : PySem.W.Frag} {F : Fm} {S H : Hp} {σ : L2.St} {ρ : En}
theorem Rep.h0 (R : Rep K F S H σ ρ) {p : Addr} (n : H p = none) : F.H0 p = none := by
  cases e : F.H0 p with
  | none => rfl
  | some o =>
    by_cases hm : F.M p
    · exact absurd n (R.mt p hm).1
    · rw [R.keep p o e hm] at n
      cases n
theorem Rep.nm (R : Rep K F S H σ ρ) {p : Addr} (n : H p = none) : ¬ F.M p := fun hm => (R.mt p hm).1 n
/-- a new object that stands still from now on -/
theorem Rep.new (R : Rep K F S H σ ρ) {p : Addr} (n : H p = none) (o : HO) : Rep K F (upd S p o) (upd H p o) σ ρ where
  sub := same_upd2 R.sub
  s0 := R.s0.trans (same_new (same_none R.sub n))
  fresh := fun b h1 h2 => by
    by_cases hb : b = p
    · subst hb
      exact R.h0 n
    · rw [upd_ne hb] at h2
      exact R.fresh b h1 h2
  keep := fun b x e hm => by
    rw [upd_ne (ne_of_none (R.keep b x e hm) n)]
    exact R.keep b x e hm
  m0 := R.m0
  mt := fun b hm => by
    have hb : b ≠ p := fun z => R.nm n (z ▸ hm)
    rw [upd_ne hb, upd_ne hb]
    exact R.mt b hm
  tok := R.tok.same (same_new n)
  tfree := R.tfree
  len := R.len
  at_ := fun i d e => by
    obtain ⟨v, h1, h2⟩ := R.at_ i d e
    exact ⟨v, h1, dp_mono (same_new (same_none R.sub n)) d v h2⟩
  own := fun i m ds e => by
    obtain ⟨a, vs, h1, h2, h3, h4, h5⟩ := R.own i m ds e
    have hb : a ≠ p := ne_of_none h2 n
    exact ⟨a, vs, h1, by rw [upd_ne hb]; exact h2, by rw [upd_ne hb]; exact h3, dpAll_mono (same_new (same_none R.sub n)) ds vs h4, h5⟩
  apart := R.apart
  dic := fun i m e => by
    obtain ⟨v, h1, h2⟩ := R.dic i m e
    exact ⟨v, h1, dic_mono (same_new (same_none R.sub n)) h2⟩
/-- a new object that is not yet anybody's -/
theorem Rep.lay (R : Rep K F S H σ ρ) {p : Addr} (n : H p = none) (o : HO) : Rep K F S (upd H p o) σ ρ where
  sub := fun b x e => by
    rw [upd_ne (ne_of_none (R.sub b x e) n)]
    exact R.sub b x e
  s0 := R.s0
  fresh := R.fresh
  keep := fun b x e hm => by
    rw [upd_ne (ne_of_none (R.keep b x e hm) n)]
    exact R.keep b x e hm
  m0 := R.m0
  mt := fun b hm => by
    have hb : b ≠ p := fun z => R.nm n (z ▸ hm)
    rw [upd_ne hb]
    exact R.mt b hm
  tok := R.tok.same (same_new n)
  tfree := R.tfree
  len := R.len
  at_ := R.at_
  own := fun i m ds e => by
    obtain ⟨a, vs, h1, h2, h3, h4, h5⟩ := R.own i m ds e
    exact ⟨a, vs, h1, by rw [upd_ne (ne_of_none h2 n)]; exact h2, h3, h4, h5⟩
  apart := R.apart
  dic := R.dic
/-- an object that is nobody's is changed -/
theorem Rep.poke (R : Rep K F S H σ ρ) {p : Addr} {vs0 : List V} (hp : H p = some (.lst vs0)) (hs : S p = none) (h0 : F.H0 p = none) (ho : ∀ (i : Nat) (m : Bool) (ds : List PyData), ρ[i]? = some (.own m ds) → σ[i]? ≠ some (some (.ref p))) (o : HO) : Rep K F S (upd H p o) σ ρ where
  sub := fun b x e => by
    rw [upd_ne (ne_of_none e hs)]
    exact R.sub b x e
  s0 := R.s0
  fresh := R.fresh
  keep := fun b x e hm => by
    rw [upd_ne (ne_of_none e h0)]
    exact R.keep b x e hm
  m0 := R.m0
  mt := fun b hb => by
    have hb' : b ≠ p := fun z => R.m0 b hb (z ▸ h0)
    rw [upd_ne hb']
    exact R.mt b hb
  tok := R.tok.but hp fun b o hb e => by rw [upd_ne hb]; exact e
  tfree := R.tfree
  len := R.len
  at_ := R.at_
  own := fun i m ds e => by
    obtain ⟨a, vs, h1, h2, h3, h4, h5⟩ := R.own i m ds e
    have hb : a ≠ p := fun z => ho i m ds e (by rw [h1, z])
    exact ⟨a, vs, h1, by rw [upd_ne hb]; exact h2, h3, h4, h5⟩
  apart := R.apart
  dic := R.dic
/-- it stands still from now on -/
theorem Rep.still (R : Rep K F S H σ ρ) {p : Addr} {o : HO} (hp : H p = some o) (hs : S p = none) (h0 : F.H0 p = none) (ho : ∀ (i : Nat) (m : Bool) (ds : List PyData), ρ[i]? = some (.own m ds) → σ[i]? ≠ some (some (.ref p))) : Rep K F (upd S p o) H σ ρ where
  sub := fun b x e => by
    by_cases hb : b = p
    · subst hb
      rw [upd_same] at e
      cases e
      exact hp
    · rw [upd_ne hb] at e
      exact R.sub b x e
  s0 := R.s0.trans (same_new hs)
  fresh := fun b h1 h2 => by
    by_cases hb : b = p
    · subst hb
      exact h0
    · rw [upd_ne hb] at h2
      exact R.fresh b h1 h2
  keep := R.keep
  m0 := R.m0
  mt := fun b hb => by
    have hb' : b ≠ p := fun z => R.m0 b hb (z ▸ h0)
    rw [upd_ne hb']
    exact R.mt b hb
  tok := R.tok
  tfree := R.tfree
  len := R.len
  at_ := fun i d e => by
    obtain ⟨v, h1, h2⟩ := R.at_ i d e
    exact ⟨v, h1, dp_mono (same_new hs) d v h2⟩
  own := fun i m ds e => by
    obtain ⟨a, vs, h1, h2, h3, h4, h5⟩ := R.own i m ds e
    have hb : a ≠ p := fun z => ho i m ds e (by rw [h1, z])
    exact ⟨a, vs, h1, h2, by rw [upd_ne hb]; exact h3, dpAll_mono (same_new hs) ds vs h4, h5⟩
  apart := R.apart
  dic := fun i m e => by
    obtain ⟨v, h1, h2⟩ := R.dic i m e
    exact ⟨v, h1, dic_mono (same_new hs) h2⟩

theorem get_set {α : Type} {l : List α} {i j : Nat} {x y : α} (h : (l.set i x)[j]? = some y) : (j = i ∧ y = x ∧ i < l.length) ∨ (j ≠ i ∧ l[j]? = some y) := by
  by_cases e : j = i
  · subst e
    by_cases hl : j < l.length
    · rw [List.getElem?_set_self hl] at h
      cases h
      exact .inl ⟨rfl, rfl, hl⟩
    · rw [List.getElem?_eq_none (by simpa using hl)] at h
      cases h
  · rw [List.getElem?_set_ne (Ne.symm e)] at h
    exact .inr ⟨e, h⟩
/-- a slot gets a tree -/
theorem Rep.set (R : Rep K F S H σ ρ) (i : Nat) {v : V} {d : PyData} (h : Dq K S v d) : Rep K F S H (σ.set i (some v)) (ρ.set i (.val d)) where
  sub := R.sub
  s0 := R.s0
  fresh := R.fresh
  keep := R.keep
  m0 := R.m0
  mt := R.mt
  tok := R.tok
  tfree := R.tfree
  len := by rw [List.length_set, List.length_set, R.len]
  at_ := fun j e q => by
    rcases get_set q with ⟨rfl, q, hl⟩ | ⟨hj, q⟩
    · cases q
      exact ⟨v, List.getElem?_set_self (by rw [R.len]; exact hl), h⟩
    · obtain ⟨w, h1, h2⟩ := R.at_ j e q
      exact ⟨w, by rw [List.getElem?_set_ne (Ne.symm hj)]; exact h1, h2⟩
  own := fun j m ds q => by
    rcases get_set q with ⟨rfl, q, _⟩ | ⟨hj, q⟩
    · cases q
    · obtain ⟨a, vs, h1, h2⟩ := R.own j m ds q
      exact ⟨a, vs, by rw [List.getElem?_set_ne (Ne.symm hj)]; exact h1, h2⟩
  apart := fun j k m n ds es hne q q' => by
    rcases get_set q with ⟨rfl, q, _⟩ | ⟨hj, q⟩
    · cases q
    · rcases get_set q' with ⟨rfl, q', _⟩ | ⟨hk, q'⟩
      · cases q'
      · rw [List.getElem?_set_ne (Ne.symm hj), List.getElem?_set_ne (Ne.symm hk)]
        exact R.apart j k m n ds es hne q q'
  dic := fun j m q => by
    rcases get_set q with ⟨rfl, q, _⟩ | ⟨hj, q⟩
    · cases q
    · obtain ⟨w, h1, h2⟩ := R.dic j m q
      exact ⟨w, by rw [List.getElem?_set_ne (Ne.symm hj)]; exact h1, h2⟩
/-- a slot is forgotten -/
theorem Rep.drop (R : Rep K F S H σ ρ) (i : Nat) (x : Option V) : Rep K F S H (σ.set i x) (ρ.set i .un) where
  sub := R.sub
  s0 := R.s0
  fresh := R.fresh
  keep := R.keep
  m0 := R.m0
  mt := R.mt
  tok := R.tok
  tfree := R.tfree
  len := by rw [List.length_set, List.length_set, R.len]
  at_ := fun j e q => by
    rcases get_set q with ⟨rfl, q, hl⟩ | ⟨hj, q⟩
    · cases q
    · obtain ⟨w, h1, h2⟩ := R.at_ j e q
      exact ⟨w, by rw [List.getElem?_set_ne (Ne.symm hj)]; exact h1, h2⟩
  own := fun j m ds q => by
    rcases get_set q with ⟨rfl, q, _⟩ | ⟨hj, q⟩
    · cases q
    · obtain ⟨a, vs, h1, h2⟩ := R.own j m ds q
      exact ⟨a, vs, by rw [List.getElem?_set_ne (Ne.symm hj)]; exact h1, h2⟩
  apart := fun j k m n ds es hne q q' => by
    rcases get_set q with ⟨rfl, q, _⟩ | ⟨hj, q⟩
    · cases q
    · rcases get_set q' with ⟨rfl, q', _⟩ | ⟨hk, q'⟩
      · cases q'
      · rw [List.getElem?_set_ne (Ne.symm hj), List.getElem?_set_ne (Ne.symm hk)]
        exact R.apart j k m n ds es hne q q'
  dic := fun j m q => by
    rcases get_set q with ⟨rfl, q, _⟩ | ⟨hj, q⟩
    · cases q
    · obtain ⟨w, h1, h2⟩ := R.dic j m q
      exact ⟨w, by rw [List.getElem?_set_ne (Ne.symm hj)]; exact h1, h2⟩
/-- a slot gets a list of its own -/
theorem Rep.setOwn (R : Rep K F S H σ ρ) (i : Nat) {p : Addr} {vs : List V} {ds : List PyData} (hp : H p = some (.lst vs)) (hs : S p = none) (h0 : F.H0 p = none) (ho : ∀ (i : Nat) (m : Bool) (ds : List PyData), ρ[i]? = some (.own m ds) → σ[i]? ≠ some (some (.ref p))) (hd : DqAll K S vs ds) :
    Rep K F S H (σ.set i (some (.ref p))) (ρ.set i (.own false ds)) where
  sub := R.sub
  s0 := R.s0
  fresh := R.fresh
  keep := R.keep
  m0 := R.m0
  mt := R.mt
  tok := R.tok
  tfree := R.tfree
  len := by rw [List.length_set, List.length_set, R.len]
  at_ := fun j e q => by
    rcases get_set q with ⟨rfl, q, hl⟩ | ⟨hj, q⟩
    · cases q
    · obtain ⟨w, h1, h2⟩ := R.at_ j e q
      exact ⟨w, by rw [List.getElem?_set_ne (Ne.symm hj)]; exact h1, h2⟩
  own := fun j m es q => by
    rcases get_set q with ⟨rfl, q, hl⟩ | ⟨hj, q⟩
    · cases q
      exact ⟨p, vs, List.getElem?_set_self (by rw [R.len]; exact hl), hp, hs, hd, h0⟩
    · obtain ⟨a, vs, h1, h2⟩ := R.own j m es q
      exact ⟨a, vs, by rw [List.getElem?_set_ne (Ne.symm hj)]; exact h1, h2⟩
  apart := fun j k m n es fs hne q q' => by
    rcases get_set q with ⟨rfl, q2, hl⟩ | ⟨hj, q2⟩
    · rcases get_set q' with ⟨rfl, q3, _⟩ | ⟨hk, q3⟩
      · exact absurd rfl hne
      · rw [List.getElem?_set_self (by rw [R.len]; exact hl), List.getElem?_set_ne (Ne.symm hk)]
        exact fun z => ho k n fs q3 z.symm
    · rcases get_set q' with ⟨rfl, q3, hl⟩ | ⟨hk, q3⟩
      · rw [List.getElem?_set_self (by rw [R.len]; exact hl), List.getElem?_set_ne (Ne.symm hj)]
        exact ho j m es q2
      · rw [List.getElem?_set_ne (Ne.symm hj), List.getElem?_set_ne (Ne.symm hk)]
        exact R.apart j k m n es fs hne q2 q3
  dic := fun j m q => by
    rcases get_set q with ⟨rfl, q, _⟩ | ⟨hj, q⟩
    · cases q
    · obtain ⟨w, h1, h2⟩ := R.dic j m q
      exact ⟨w, by rw [List.getElem?_set_ne (Ne.symm hj)]; exact h1, h2⟩
/-- a slot's own list is changed -/
theorem Rep.mut (R : Rep K F S H σ ρ) {i : Nat} {m : Bool} {ds ds' : List PyData} {a : Addr} {vs' : List V} (e : ρ[i]? = some (.own m ds)) (ea : σ[i]? = some (some (.ref a))) (hd : DqAll K S vs' ds') :
    Rep K F S (upd H a (.lst vs')) σ (ρ.set i (.own m ds')) := by
  obtain ⟨a', vs, h1, h2, h3, h4, h5⟩ := R.own i m ds e
  rw [ea] at h1
  cases h1
  have oth : ∀ (j : Nat) (n : Bool) (es : List PyData), j ≠ i → ρ[j]? = some (.own n es) → σ[j]? ≠ some (some (.ref a)) := fun j n es hj q z => R.apart j i n m es ds hj q e (by rw [z, ea])
  refine ⟨fun b x q => ?_, R.s0, R.fresh, fun b x q hm => ?_, R.m0, fun b hm => ?_, R.tok.but h2 fun b o hb z => by rw [upd_ne hb]; exact z, R.tfree, by rw [List.length_set, R.len], fun j d q => ?_, fun j n es q => ?_, fun j k n n' es fs hne q q' => ?_, fun j w q => ?_⟩
  · rw [upd_ne (ne_of_none q h3)]
    exact R.sub b x q
  · have hb : b ≠ a := fun z => by
      subst z
      cases m with
      | true => exact hm h5
      | false =>
        rw [show F.H0 b = none from h5] at q
        cases q
    rw [upd_ne hb]
    exact R.keep b x q hm
  · by_cases hb : b = a
    · subst hb
      rw [upd_same]
      exact ⟨by simp, (R.mt b hm).2⟩
    · rw [upd_ne hb]
      exact R.mt b hm
  · rcases get_set q with ⟨rfl, q, hl⟩ | ⟨hj, q⟩
    · cases q
    · exact R.at_ j d q
  · rcases get_set q with ⟨rfl, q, hl⟩ | ⟨hj, q⟩
    · cases q
      exact ⟨a, vs', ea, upd_same, h3, hd, h5⟩
    · obtain ⟨c, ws, g1, g2, g3⟩ := R.own j n es q
      have hb : c ≠ a := fun z => oth j n es hj q (by rw [g1, z])
      exact ⟨c, ws, g1, by rw [upd_ne hb]; exact g2, g3⟩
  · have back : ∀ {k : Nat} {n : Bool} {fs : List PyData}, (ρ.set i (.own m ds'))[k]? = some (.own n fs) → ∃ n' fs', ρ[k]? = some (.own n' fs') := fun {k n fs} z => by
      rcases get_set z with ⟨rfl, _, _⟩ | ⟨_, z⟩
      · exact ⟨m, ds, e⟩
      · exact ⟨n, fs, z⟩
    obtain ⟨n1, f1, z1⟩ := back q
    obtain ⟨n2, f2, z2⟩ := back q'
    exact R.apart j k n1 n2 f1 f2 hne z1 z2
  · rcases get_set q with ⟨rfl, q, hl⟩ | ⟨hj, q⟩
    · cases q
    · exact R.dic j w q
/-- a slot's own list stands still from now on -/
theorem Rep.freeze (R : Rep K F S H σ ρ) {i : Nat} {ds : List PyData} (e : ρ[i]? = some (.own false ds)) :
    ∃ a vs, σ[i]? = some (some (.ref a)) ∧ Same S (upd S a (.lst vs)) ∧ Rep K F (upd S a (.lst vs)) H σ (ρ.set i (.val (.list ds))) ∧ Dq K (upd S a (.lst vs)) (.ref a) (.list ds) := by
  obtain ⟨a, vs, h1, h2, h3, h4, h5⟩ := R.own i false ds e
  have sn : Same S (upd S a (.lst vs)) := same_new h3
  have hd : Dq K (upd S a (.lst vs)) (.ref a) (.list ds) := .lst (SqQ.of upd_same) (dpAll_mono sn ds vs h4)
  refine ⟨a, vs, h1, sn, ?_, hd⟩
  have oth : ∀ (j : Nat) (n : Bool) (es : List PyData), j ≠ i → ρ[j]? = some (.own n es) → σ[j]? ≠ some (some (.ref a)) := fun j n es hj q z => R.apart j i n false es ds hj q e (by rw [z, h1])
  refine ⟨fun b x q => ?_, R.s0.trans sn, fun b q1 q2 => ?_, R.keep, R.m0, fun b hm => ?_, R.tok, R.tfree, by rw [List.length_set, R.len], fun j d q => ?_, fun j n es q => ?_, fun j k n n' es fs hne q q' => ?_, fun j w q => ?_⟩
  · by_cases hb : b = a
    · subst hb
      rw [upd_same] at q
      cases q
      exact h2
    · rw [upd_ne hb] at q
      exact R.sub b x q
  · by_cases hb : b = a
    · subst hb
      exact h5
    · rw [upd_ne hb] at q2
      exact R.fresh b q1 q2
  · have hb : b ≠ a := fun z => R.m0 b hm (z ▸ h5)
    rw [upd_ne hb]
    exact R.mt b hm
  · rcases get_set q with ⟨rfl, q, hl⟩ | ⟨hj, q⟩
    · cases q
      exact ⟨_, h1, hd⟩
    · obtain ⟨w, g1, g2⟩ := R.at_ j d q
      exact ⟨w, g1, dp_mono sn d w g2⟩
  · rcases get_set q with ⟨rfl, q, hl⟩ | ⟨hj, q⟩
    · cases q
    · obtain ⟨c, ws, g1, g2, g3, g4, g5⟩ := R.own j n es q
      have hb : c ≠ a := fun z => oth j n es hj q (by rw [g1, z])
      exact ⟨c, ws, g1, g2, by rw [upd_ne hb]; exact g3, dpAll_mono sn es ws g4, g5⟩
  · rcases get_set q with ⟨rfl, q, hl⟩ | ⟨hj, q⟩
    · cases q
    · rcases get_set q' with ⟨rfl, q', hl⟩ | ⟨hk, q'⟩
      · cases q'
      · exact R.apart j k n n' es fs hne q q'
  · rcases get_set q with ⟨rfl, q, hl⟩ | ⟨hj, q⟩
    · cases q
    · obtain ⟨u, g1, g2⟩ := R.dic j w q
      exact ⟨u, g1, dic_mono sn g2⟩
end
end Tr
set_option Elab.async false
set_option linter.all false
set_option maxRecDepth 100000
set_option maxHeartbeats 2000000
/-! Tr2: the judgements over trees, expressions -/
namespace Tr
open PySem PySem.Spec PyProof.Rows L2
variable [Tabbed]

abbrev W1 := En → (PyData → En → Prop) → Prop
abbrev WT := En → (Bool → En → Prop) → Prop
abbrev WA := En → (List PyData → En → Prop) → Prop
/-- a tree comes -/
def Snd (K : PySem.W.Frag) (t : TE) (w : W1) : Prop :=
  ∀ (F : Fm) (ρ : En) (P : PyData → En → Prop) (σ : L2.St) (S H : Hp) (Q : VK), w ρ P → Rep K F S H σ ρ →
    (∀ d ρ' v S' H', P d ρ' → Rep K F S' H' σ ρ' → Same S S' → Dq K S' v d → Q v H') → t σ H Q
/-- a truth comes -/
def SndT (K : PySem.W.Frag) (t : TT) (w : WT) : Prop :=
  ∀ (F : Fm) (ρ : En) (P : Bool → En → Prop) (σ : L2.St) (S H : Hp) (Q : Bool → Hp → Prop), w ρ P → Rep K F S H σ ρ →
    (∀ b ρ' S' H', P b ρ' → Rep K F S' H' σ ρ' → Same S S' → Q b H') → t σ H Q
/-- arguments come -/
def SndA (K : PySem.W.Frag) (t : TA) (w : WA) : Prop :=
  ∀ (F : Fm) (ρ : En) (P : List PyData → En → Prop) (σ : L2.St) (S H : Hp) (Q : List V → Hp → Prop), w ρ P → Rep K F S H σ ρ →
    (∀ ds ρ' vs S' H', P ds ρ' → Rep K F S' H' σ ρ' → Same S S' → DqAll K S' vs ds → Q vs H') → t σ H Q
/-- nobody's: a list that has just been made -/
structure Bare (F : Fm) (S H : Hp) (σ : L2.St) (ρ : En) (p : Addr) (vs : List V) : Prop where
  at_ : H p = some (.lst vs)
  s : S p = none
  h0 : F.H0 p = none
  ap : ∀ (i : Nat) (m : Bool) (ds : List PyData), ρ[i]? = some (.own m ds) → σ[i]? ≠ some (some (.ref p))
/-- a new list comes -/
def SndN (K : PySem.W.Frag) (t : TE) (w : WA) : Prop :=
  ∀ (F : Fm) (ρ : En) (P : List PyData → En → Prop) (σ : L2.St) (S H : Hp) (Q : VK), w ρ P → Rep K F S H σ ρ →
    (∀ ds ρ' p vs S' H', P ds ρ' → Rep K F S' H' σ ρ' → Same S S' → Bare F S' H' σ ρ' p vs → DqAll K S' vs ds → Q (.ref p) H') → t σ H Q
/-- a tree comes that is to be looked at at once: it may be a list that a slot holds alone -/
def SndR (K : PySem.W.Frag) (t : TE) (w : W1) : Prop :=
  ∀ (F : Fm) (ρ : En) (P : PyData → En → Prop) (σ : L2.St) (S H : Hp) (Q : VK), w ρ P → Rep K F S H σ ρ →
    (∀ d ρ' v S' H', P d ρ' → Rep K F S' H' σ ρ' → Same S S' → Dq K H' v d → Q v H') → t σ H Q

structure EV (X : Cx) (e : Expr) (t : TE) (w : W1) : Prop where
  pe : PE X e t
  sd : Snd X.K t w
structure EN (X : Cx) (e : Expr) (t : TE) (w : WA) : Prop where
  pe : PE X e t
  sd : SndN X.K t w
structure ER (X : Cx) (e : Expr) (t : TE) (w : W1) : Prop where
  pe : PE X e t
  sd : SndR X.K t w
structure ET (X : Cx) (e : Expr) (t : TT) (w : WT) : Prop where
  pt : PT X e t
  sd : SndT X.K t w
structure EA (X : Cx) (es : List Expr) (t : TA) (w : WA) : Prop where
  pa : PA X es t
  sd : SndA X.K t w

section
variable {K : PySem.W.Frag} {F : Fm} {S H : Hp} {σ : L2.St} {ρ : En}
theorem Rep.bare (R : Rep K F S H σ ρ) {p : Addr} (n : H p = none) {vs : List V} : Bare F S (upd H p (.lst vs)) σ ρ p vs where
  at_ := upd_same
  s := same_none R.sub n
  h0 := R.h0 n
  ap := fun i m ds e z => by
    obtain ⟨a, ws, h1, h2, _⟩ := R.own i m ds e
    rw [h1] at z
    cases z
    rw [n] at h2
    cases h2
theorem Bare.still (R : Rep K F S H σ ρ) {p : Addr} {vs : List V} (B : Bare F S H σ ρ p vs) : Rep K F (upd S p (.lst vs)) H σ ρ := R.still B.at_ B.s B.h0 B.ap
end

section
variable {X : Cx} {e : Expr} {t : TE} {w : W1}
/-- a new list, as a tree -/
def wN (w : WA) : W1 := fun ρ P => w ρ fun ds ρ' => P (.list ds) ρ'
theorem EN.ev {w : WA} (h : EN X e t w) : EV X e t (wN w) := ⟨h.pe, fun F ρ P σ S H Q hw R q => h.sd F ρ _ σ S H Q hw R fun ds ρ' p vs S' H' hp R' sm B hd =>
  q (.list ds) ρ' (.ref p) _ H' hp (B.still R') (sm.trans (same_new B.s)) (.lst (SqQ.of upd_same) (dpAll_mono (same_new B.s) ds vs hd))⟩
theorem EV.er (h : EV X e t w) : ER X e t w := ⟨h.pe, fun F ρ P σ S H Q hw R q => h.sd F ρ _ σ S H Q hw R fun d ρ' v S' H' hp R' sm hd => q d ρ' v S' H' hp R' sm (dp_mono R'.sub d v hd)⟩
end

/-! ### what is asked of a tree, of a slot -/
def ownAt (ρ : En) (i : Nat) (k : Bool → List PyData → Prop) : Prop := match ρ[i]? with
  | some (.own m ds) => k m ds
  | _ => False
def asInt (d : PyData) (k : Int → Prop) : Prop := match d with
  | .int i => k i
  | _ => False
def asNat (d : PyData) (k : Nat → Prop) : Prop := match d with
  | .int i => 0 ≤ i ∧ k i.toNat
  | _ => False
def asList (d : PyData) (k : List PyData → Prop) : Prop := match d with
  | .list ds => k ds
  | _ => False
def asTuple (d : PyData) (k : List PyData → Prop) : Prop := match d with
  | .tuple ds => k ds
  | _ => False
def someOf {α : Type} (o : Option α) (k : α → Prop) : Prop := match o with
  | some z => k z
  | none => False
theorem ownAt.out {ρ : En} {i : Nat} {k : Bool → List PyData → Prop} (h : ownAt ρ i k) : ∃ m ds, ρ[i]? = some (.own m ds) ∧ k m ds := by
  unfold ownAt at h
  split at h
  · exact ⟨_, _, by assumption, h⟩
  · exact h.elim
theorem asInt.out {d : PyData} {k : Int → Prop} (h : asInt d k) : ∃ i, d = .int i ∧ k i := by
  unfold asInt at h
  split at h
  · exact ⟨_, rfl, h⟩
  · exact h.elim
theorem asNat.out {d : PyData} {k : Nat → Prop} (h : asNat d k) : ∃ n : Nat, d = .int n ∧ k n := by
  unfold asNat at h
  split at h
  · rename_i i
    exact ⟨i.toNat, by rw [Int.toNat_of_nonneg h.1], h.2⟩
  · exact h.elim
theorem asList.out {d : PyData} {k : List PyData → Prop} (h : asList d k) : ∃ ds, d = .list ds ∧ k ds := by
  unfold asList at h
  split at h
  · exact ⟨_, rfl, h⟩
  · exact h.elim
theorem asTuple.out {d : PyData} {k : List PyData → Prop} (h : asTuple d k) : ∃ ds, d = .tuple ds ∧ k ds := by
  unfold asTuple at h
  split at h
  · exact ⟨_, rfl, h⟩
  · exact h.elim
theorem someOf.out {α : Type} {o : Option α} {k : α → Prop} (h : someOf o k) : ∃ z, o = some z ∧ k z := by
  unfold someOf at h
  split at h
  · exact ⟨_, rfl, h⟩
  · exact h.elim
def wNeO (i : Nat) (wb : W1) : W1 := fun ρ P => ownAt ρ i fun _ _ => wb ρ fun y ρ2 => ownAt ρ2 i fun m ds => SeqAt.shaped (.list ds) = true ∧ SeqAt.shaped y = true ∧ P (.bool (!PyData.eqv (.list ds) y)) ρ2
def isNone : PyData → Bool
  | .none => true
  | _ => false
def wIsN (wa : W1) : W1 := fun ρ P => wa ρ fun x ρ1 => P (.bool (isNone x)) ρ1
def wTup (wr : WA) : W1 := fun ρ P => wr ρ fun ds ρ1 => ds.length ≤ sizeLine ∧ P (.tuple ds) ρ1
def wLst (wr : WA) : WA := fun ρ P => wr ρ fun ds ρ1 => ds.length ≤ sizeLine ∧ P ds ρ1
/-! ### names, constants -/
def wName (i : Nat) : W1 := fun ρ P => match ρ[i]? with
  | some (.val d) => P d ρ
  | some (.own false ds) => P (.list ds) (ρ.set i (.val (.list ds)))
  | _ => False
def wLook (i : Nat) : W1 := fun ρ P => match ρ[i]? with
  | some (.val d) => P d ρ
  | some (.own _ ds) => P (.list ds) ρ
  | _ => False
def wC (d : PyData) : W1 := fun ρ P => P d ρ
theorem snd_name {K : PySem.W.Frag} (i : Nat) : Snd K (tVar i) (wName i) := fun F ρ P σ S H Q hw R q => by
  unfold wName at hw
  split at hw
  · rename_i d e
    obtain ⟨v, h1, h2⟩ := R.at_ i d e
    exact ⟨v, h1, q d ρ v S H hw R (Same.refl S) h2⟩
  · rename_i ds e
    obtain ⟨a, vs, h1, sm, R', hd⟩ := R.freeze e
    exact ⟨.ref a, h1, q _ _ _ _ _ hw R' sm hd⟩
  · exact hw.elim
theorem snd_look {K : PySem.W.Frag} (i : Nat) : SndR K (tVar i) (wLook i) := fun F ρ P σ S H Q hw R q => by
  unfold wLook at hw
  split at hw
  · rename_i d e
    obtain ⟨v, h1, h2⟩ := R.at_ i d e
    exact ⟨v, h1, q d ρ v S H hw R (Same.refl S) (dp_mono R.sub d v h2)⟩
  · rename_i m ds e
    obtain ⟨a, vs, h1, h2, h3, h4, h5⟩ := R.own i m ds e
    exact ⟨.ref a, h1, q _ _ _ S H hw R (Same.refl S) (.lst (SqQ.of h2) (dpAll_mono R.sub ds vs h4))⟩
  · exact hw.elim
theorem snd_c {K : PySem.W.Frag} {v : V} {d : PyData} (h : ∀ S, Dq K S v d) : Snd K (tC v) (wC d) := fun F ρ P σ S H Q hw R q => q d ρ v S H hw R (Same.refl S) (h S)
section
variable {X : Cx}
theorem ev_name (i : Nat) {x : Str} {pos : Pos} (hN : X.N[i]? = some x := by rfl) (hv : Vis X.env.scope x := by first | exact Or.inl rfl | exact Or.inr (Or.inl rfl) | exact Or.inr (Or.inr rfl)) (hd : (x == ("__debug__" : Str)) = false := by decide)
    (hcd : (x == ("__classdict__" : Str)) = false := by decide) : EV X (.Name x pos) (tVar i) (wName i) := ⟨pe_var hN hv hd hcd, snd_name i⟩
theorem er_name (i : Nat) {x : Str} {pos : Pos} (hN : X.N[i]? = some x := by rfl) (hv : Vis X.env.scope x := by first | exact Or.inl rfl | exact Or.inr (Or.inl rfl) | exact Or.inr (Or.inr rfl)) (hd : (x == ("__debug__" : Str)) = false := by decide)
    (hcd : (x == ("__classdict__" : Str)) = false := by decide) : ER X (.Name x pos) (tVar i) (wLook i) := ⟨pe_var hN hv hd hcd, snd_look i⟩
theorem ev_int {i j pos} : EV X (.Constant (.int i) j pos) (tC (.int i)) (wC (.int i)) := ⟨pe_int, snd_c fun _ => .int i⟩
theorem ev_bl {b j pos} : EV X (.Constant (.bool b) j pos) (tC (.bl b)) (wC (.bool b)) := ⟨pe_bl, snd_c fun _ => .bl b⟩
theorem ev_non {j pos} : EV X (.Constant .none j pos) (tC .non) (wC .none) := ⟨pe_non, snd_c fun _ => .non⟩
theorem ev_str {x j pos} : EV X (.Constant (.str x) j pos) (tC (.str x)) (wC (.str x)) := ⟨pe_str, snd_c fun _ => .str x⟩
/-- a module's plain constant -/
theorem ev_globI {x : Str} {i : Int} {u : Value} {pos : Pos} (hg : Gl X x) (hm : X.mg x = some u) (r : RelV (.int i) u) (hd : (x == ("__debug__" : Str)) = false := by decide) : EV X (.Name x pos) (tC (.int i)) (wC (.int i)) := ⟨pe_glob hg hm r hd, snd_c fun _ => .int i⟩
theorem ev_globS {x : Str} {z : Str} {u : Value} {pos : Pos} (hg : Gl X x) (hm : X.mg x = some u) (r : RelV (.str z) u) (hd : (x == ("__debug__" : Str)) = false := by decide) : EV X (.Name x pos) (tC (.str z)) (wC (.str z)) := ⟨pe_glob hg hm r hd, snd_c fun _ => .str z⟩
end

/-! ### two operands -/
def wTwo (wa wb : W1) (k : PyData → PyData → En → Prop) : En → Prop := fun ρ => wa ρ fun x ρ1 => wb ρ1 fun y ρ2 => k x y ρ2
/-- r on values is served by g on trees, the heap stays -/
def Lift2 (K : PySem.W.Frag) (r : R2) (g : PyData → PyData → (PyData → Prop) → Prop) : Prop :=
  ∀ (S H : Hp) (x y : V) (d e : PyData) (P : PyData → Prop) (Q : VK), Same S H → Dq K S x d → Dq K S y e → g d e P → (∀ z v, P z → Dq K S v z → Q v H) → r x y H Q
/-- .. a new list comes -/
def Lift2N (K : PySem.W.Frag) (r : R2) (g : PyData → PyData → (List PyData → Prop) → Prop) : Prop :=
  ∀ (S H : Hp) (x y : V) (d e : PyData) (P : List PyData → Prop) (Q : VK), Same S H → Dq K S x d → Dq K S y e → g d e P → (∀ p ds vs, H p = none → P ds → DqAll K S vs ds → Q (.ref p) (upd H p (.lst vs))) → r x y H Q
/-- .. a new tuple comes (or one that stood) -/
def Lift2T (K : PySem.W.Frag) (r : R2) (g : PyData → PyData → (PyData → Prop) → Prop) : Prop :=
  ∀ (S H : Hp) (x y : V) (d e : PyData) (P : PyData → Prop) (Q : VK), Same S H → Dq K S x d → Dq K S y e → g d e P → (∀ z v, P z → Dq K S v z → Q v H) →
    (∀ p ds vs, H p = none → P (.tuple ds) → DqAll K S vs ds → Q (.ref p) (upd H p (.tup vs))) → r x y H Q
def wOp (g : PyData → PyData → (PyData → Prop) → Prop) (wa wb : W1) : W1 := fun ρ P => wa ρ fun x ρ1 => wb ρ1 fun y ρ2 => g x y fun z => P z ρ2
def wOpN (g : PyData → PyData → (List PyData → Prop) → Prop) (wa wb : W1) : WA := fun ρ P => wa ρ fun x ρ1 => wb ρ1 fun y ρ2 => g x y fun z => P z ρ2
section
variable {K : PySem.W.Frag} {r : R2} {ta tb : TE} {wa wb : W1}
theorem snd_op {g : PyData → PyData → (PyData → Prop) → Prop} (L : Lift2 K r g) (ha : Snd K ta wa) (hb : Snd K tb wb) : Snd K (tOp r ta tb) (wOp g wa wb) := fun F ρ P σ S H Q hw R q =>
  ha F ρ _ σ S H _ hw R fun x ρ1 vx S1 H1 h1 R1 s1 d1 => hb F ρ1 _ σ S1 H1 _ h1 R1 fun y ρ2 vy S2 H2 h2 R2 s2 d2 =>
    L S2 H2 vx vy x y _ Q R2.sub (dp_mono s2 x vx d1) d2 h2 fun z v hz dz => q z ρ2 v S2 H2 hz R2 (s1.trans s2) dz
theorem snd_opN {g : PyData → PyData → (List PyData → Prop) → Prop} (L : Lift2N K r g) (ha : Snd K ta wa) (hb : Snd K tb wb) : SndN K (tOp r ta tb) (wOpN g wa wb) := fun F ρ P σ S H Q hw R q =>
  ha F ρ _ σ S H _ hw R fun x ρ1 vx S1 H1 h1 R1 s1 d1 => hb F ρ1 _ σ S1 H1 _ h1 R1 fun y ρ2 vy S2 H2 h2 R2 s2 d2 =>
    L S2 H2 vx vy x y _ Q R2.sub (dp_mono s2 x vx d1) d2 h2 fun p ds vs n hp hd => q ds ρ2 p vs S2 _ hp (R2.lay n _) (s1.trans s2) (R2.bare n) hd
theorem snd_opT {g : PyData → PyData → (PyData → Prop) → Prop} (L : Lift2T K r g) (ha : Snd K ta wa) (hb : Snd K tb wb) : Snd K (tOp r ta tb) (wOp g wa wb) := fun F ρ P σ S H Q hw R q =>
  ha F ρ _ σ S H _ hw R fun x ρ1 vx S1 H1 h1 R1 s1 d1 => hb F ρ1 _ σ S1 H1 _ h1 R1 fun y ρ2 vy S2 H2 h2 R2 s2 d2 =>
    L S2 H2 vx vy x y _ Q R2.sub (dp_mono s2 x vx d1) d2 h2 (fun z v hz dz => q z ρ2 v S2 H2 hz R2 (s1.trans s2) dz) fun p ds vs n hp hd =>
      q _ ρ2 _ _ _ hp (R2.new n (.tup vs)) (s1.trans (s2.trans (same_new (same_none R2.sub n)))) (.tup (SqT.of upd_same) (dpAll_mono (same_new (same_none R2.sub n)) ds vs hd))
end
/-- ints in, under C -/
def gI (C : Int → Int → Prop) (f : Int → Int → PyData) : PyData → PyData → (PyData → Prop) → Prop := fun x y P => match x, y with
  | .int i, .int j => C i j ∧ P (f i j)
  | _, _ => False
def gI0 (f : Int → Int → PyData) : PyData → PyData → (PyData → Prop) → Prop := fun x y P => match x, y with
  | .int i, .int j => P (f i j)
  | _, _ => False
theorem lift_I {K : PySem.W.Frag} {C : Int → Int → Prop} {f : Int → Int → PyData} {g : Int → Int → V} (h : ∀ i j S, Dq K S (g i j) (f i j)) : Lift2 K (rI C g) (gI C f) := fun S H x y d e P Q _ dx dy hg q => by
  unfold gI at hg
  split at hg
  · cases dx
    cases dy
    exact ⟨_, _, rfl, rfl, hg.1, q _ _ hg.2 (h _ _ S)⟩
  · exact hg.elim
theorem lift_I0 {K : PySem.W.Frag} {f : Int → Int → PyData} {g : Int → Int → V} (h : ∀ i j S, Dq K S (g i j) (f i j)) : Lift2 K (rI0 g) (gI0 f) := fun S H x y d e P Q _ dx dy hg q => by
  unfold gI0 at hg
  split at hg
  · cases dx
    cases dy
    exact ⟨_, _, rfl, rfl, q _ _ hg (h _ _ S)⟩
  · exact hg.elim
section
variable {X : Cx} {a b c : Expr} {ta tb tc : TE} {wa wb wc : W1} {pos : Pos}
theorem ev_bin {op : Operator} {r : R2} {g : PyData → PyData → (PyData → Prop) → Prop} (ho : OpR X (binaryOp op) r) (L : Lift2 X.K r g) (ha : EV X a ta wa) (hb : EV X b tb wb) : EV X (.BinOp a op b pos) (tOp r ta tb) (wOp g wa wb) := ⟨pe_op ho ha.pe hb.pe, snd_op L ha.sd hb.sd⟩
theorem ev_add (ha : EV X a ta wa) (hb : EV X b tb wb) : EV X (.BinOp a .Add b pos) (tOp (rI0 fun i j => .int (i + j)) ta tb) (wOp (gI0 fun i j => .int (i + j)) wa wb) := ev_bin op_add (lift_I0 fun _ _ _ => .int _) ha hb
theorem ev_sub (ha : EV X a ta wa) (hb : EV X b tb wb) : EV X (.BinOp a .Sub b pos) (tOp (rI0 fun i j => .int (i - j)) ta tb) (wOp (gI0 fun i j => .int (i - j)) wa wb) := ev_bin op_sub (lift_I0 fun _ _ _ => .int _) ha hb
theorem ev_mul (ha : EV X a ta wa) (hb : EV X b tb wb) : EV X (.BinOp a .Mult b pos) (tOp (rI CMul fun i j => .int (i * j)) ta tb) (wOp (gI CMul fun i j => .int (i * j)) wa wb) := ev_bin op_mul (lift_I fun _ _ _ => .int _) ha hb
theorem ev_mod (ha : EV X a ta wa) (hb : EV X b tb wb) : EV X (.BinOp a .Mod b pos) (tOp (rI (fun _ j => j ≠ 0) fun i j => .int (i.fmod j)) ta tb) (wOp (gI (fun _ j => j ≠ 0) fun i j => .int (i.fmod j)) wa wb) := ev_bin op_modN (lift_I fun _ _ _ => .int _) ha hb
theorem ev_fdiv (ha : EV X a ta wa) (hb : EV X b tb wb) : EV X (.BinOp a .FloorDiv b pos) (tOp (rI CDivN fun i j => .int (i.fdiv j)) ta tb) (wOp (gI CDivN fun i j => .int (i.fdiv j)) wa wb) := ev_bin op_fdivN (lift_I fun _ _ _ => .int _) ha hb
theorem ev_pow (ha : EV X a ta wa) (hb : EV X b tb wb) : EV X (.BinOp a .Pow b pos) (tOp (rI CPow fun i j => .int (i ^ j.toNat)) ta tb) (wOp (gI CPow fun i j => .int (i ^ j.toNat)) wa wb) := ev_bin op_pow (lift_I fun _ _ _ => .int _) ha hb
theorem ev_cmpI {op : CmpOp} {r : R2} {g : PyData → PyData → (PyData → Prop) → Prop} (ho : OpR X (compareOp op) r) (L : Lift2 X.K r g) (ha : EV X a ta wa) (hb : EV X b tb wb) (hm : behindInMarks op b = false) : EV X (.Compare a [op] [b] pos) (tOp r ta tb) (wOp g wa wb) := ⟨pe_cmpR ho ha.pe hb.pe hm, snd_op L ha.sd hb.sd⟩
theorem ev_lt (ha : EV X a ta wa) (hb : EV X b tb wb) : EV X (.Compare a [.Lt] [b] pos) (tOp (rI0 fun i j => .bl (decide (i < j))) ta tb) (wOp (gI0 fun i j => .bool (decide (i < j))) wa wb) := ev_cmpI op_lt (lift_I0 fun _ _ _ => .bl _) ha hb (nomark _)
theorem ev_le (ha : EV X a ta wa) (hb : EV X b tb wb) : EV X (.Compare a [.LtE] [b] pos) (tOp (rI0 fun i j => .bl (decide (i ≤ j))) ta tb) (wOp (gI0 fun i j => .bool (decide (i ≤ j))) wa wb) := ev_cmpI op_le (lift_I0 fun _ _ _ => .bl _) ha hb (nomark _)
theorem ev_gt (ha : EV X a ta wa) (hb : EV X b tb wb) : EV X (.Compare a [.Gt] [b] pos) (tOp (rI0 fun i j => .bl (decide (j < i))) ta tb) (wOp (gI0 fun i j => .bool (decide (j < i))) wa wb) := ev_cmpI op_gt (lift_I0 fun _ _ _ => .bl _) ha hb (nomark _)
theorem ev_ge (ha : EV X a ta wa) (hb : EV X b tb wb) : EV X (.Compare a [.GtE] [b] pos) (tOp (rI0 fun i j => .bl (decide (j ≤ i))) ta tb) (wOp (gI0 fun i j => .bool (decide (j ≤ i))) wa wb) := ev_cmpI op_ge (lift_I0 fun _ _ _ => .bl _) ha hb (nomark _)
/-- == of trees -/
def gEq : PyData → PyData → (PyData → Prop) → Prop := fun x y P => SeqAt.shaped x = true ∧ SeqAt.shaped y = true ∧ P (.bool (PyData.eqv x y))
def gNe : PyData → PyData → (PyData → Prop) → Prop := fun x y P => SeqAt.shaped x = true ∧ SeqAt.shaped y = true ∧ P (.bool (!PyData.eqv x y))
theorem lift_eq {K : PySem.W.Frag} : Lift2 K (rEqD K) gEq := fun S H x y d e P Q sm dx dy hg q => ⟨d, e, (dp_mono sm d x dx).p, (dp_mono sm e y dy).p, hg.1, hg.2.1, q _ _ hg.2.2 (.bl _)⟩
theorem lift_ne {K : PySem.W.Frag} : Lift2 K (rNeD K) gNe := fun S H x y d e P Q sm dx dy hg q => ⟨d, e, (dp_mono sm d x dx).p, (dp_mono sm e y dy).p, hg.1, hg.2.1, q _ _ hg.2.2 (.bl _)⟩
theorem ev_eq (hu : X.A.units + 64 < cLine) (ha : EV X a ta wa) (hb : EV X b tb wb) : EV X (.Compare a [.Eq] [b] pos) (tOp (rEqD X.K) ta tb) (wOp gEq wa wb) := ev_cmpI (op_eqD hu) lift_eq ha hb (nomark _)
theorem ev_ne (hu : X.A.units + 64 < cLine) (ha : EV X a ta wa) (hb : EV X b tb wb) : EV X (.Compare a [.NotEq] [b] pos) (tOp (rNeD X.K) ta tb) (wOp gNe wa wb) := ev_cmpI (op_neD hu) lift_ne ha hb (nomark _)
/-- a list of one's own on the left, looked at -/
theorem ev_neO (hu : X.A.units + 64 < cLine) (i : Nat) {x : Str} {pos' : Pos} (hb : EV X b tb wb) (hN : X.N[i]? = some x := by rfl) (hv : Vis X.env.scope x := by first | exact Or.inl rfl | exact Or.inr (Or.inl rfl) | exact Or.inr (Or.inr rfl)) (hd : (x == ("__debug__" : Str)) = false := by decide)
    (hcd : (x == ("__classdict__" : Str)) = false := by decide) :
    EV X (.Compare (.Name x pos') [.NotEq] [b] pos) (tOp (rNeD X.K) (tVar i) tb) (wNeO i wb) := by
  refine ⟨pe_cmpR (op_neD hu) (pe_var hN hv hd hcd) hb.pe (nomark _), fun F ρ P σ S H Q hw R q => ?_⟩
  obtain ⟨m, ds, e, hw⟩ := hw.out
  obtain ⟨a, vs, h1, h2, h3, h4, h5⟩ := R.own i m ds e
  refine ⟨.ref a, h1, hb.sd F ρ _ σ S H _ hw R fun y ρ2 vy S2 H2 hp R2 s2 d2 => ?_⟩
  obtain ⟨m', ds', e', k1, k2, hp⟩ := hp.out
  obtain ⟨a', vs', g1, g2, g3, g4, g5⟩ := R2.own i m' ds' e'
  rw [h1] at g1
  cases g1
  exact ⟨.list ds', y, .lst (SqL.of g2) ((dpAll_mono R2.sub ds' vs' g4).p), (dp_mono R2.sub y vy d2).p, k1, k2, q _ _ _ _ _ hp R2 s2 (.bl _)⟩

/-! ### tests -/
def wB (w : W1) : WT := fun ρ P => w ρ fun d ρ' => match d with
  | .bool b => P b ρ'
  | _ => False
theorem snd_B {K : PySem.W.Frag} {t : TE} {w : W1} (h : Snd K t w) : SndT K (tB t) (wB w) := fun F ρ P σ S H Q hw R q => h F ρ _ σ S H _ hw R fun d ρ' v S' H' hp R' sm hd => by
  split at hp
  · cases hd
    exact ⟨_, rfl, q _ _ _ _ hp R' sm⟩
  · exact hp.elim
theorem snd_Test {K : PySem.W.Frag} {t : TE} {w : W1} (h : Snd K t w) : SndT K (tTest t) (wB w) := snd_B h
/-- an expression that is a truth, as a test -/
theorem et_val {e : Expr} {t : TE} {w : W1} (h : EV X e t w) (he : ∀ whole, isTrue e X.env whole = (do let v ← whole; standAt e.pos; holding [v] (truthy v)) := by intro _; rfl) : ET X e (tB t) (wB w) := ⟨pt_val h.pe he, snd_B h.sd⟩
/-- a comparison as a test -/
theorem et_cmp {op : CmpOp} {r : R2} {g : PyData → PyData → (PyData → Prop) → Prop} (ho : OpR X (compareOp op) r) (L : Lift2 X.K r g) (ha : EV X a ta wa) (hb : EV X b tb wb) (hm : behindInMarks op b = false) : ET X (.Compare a [op] [b] pos) (tTest (tOp r ta tb)) (wB (wOp g wa wb)) :=
  ⟨pt_cmpR ho ha.pe hb.pe hm, snd_Test (snd_op L ha.sd hb.sd)⟩
theorem et_lt (ha : EV X a ta wa) (hb : EV X b tb wb) : ET X (.Compare a [.Lt] [b] pos) (tTest (tOp (rI0 fun i j => .bl (decide (i < j))) ta tb)) (wB (wOp (gI0 fun i j => .bool (decide (i < j))) wa wb)) := et_cmp op_lt (lift_I0 fun _ _ _ => .bl _) ha hb (nomark _)
theorem et_le (ha : EV X a ta wa) (hb : EV X b tb wb) : ET X (.Compare a [.LtE] [b] pos) (tTest (tOp (rI0 fun i j => .bl (decide (i ≤ j))) ta tb)) (wB (wOp (gI0 fun i j => .bool (decide (i ≤ j))) wa wb)) := et_cmp op_le (lift_I0 fun _ _ _ => .bl _) ha hb (nomark _)
theorem et_gt (ha : EV X a ta wa) (hb : EV X b tb wb) : ET X (.Compare a [.Gt] [b] pos) (tTest (tOp (rI0 fun i j => .bl (decide (j < i))) ta tb)) (wB (wOp (gI0 fun i j => .bool (decide (j < i))) wa wb)) := et_cmp op_gt (lift_I0 fun _ _ _ => .bl _) ha hb (nomark _)
theorem et_ge (ha : EV X a ta wa) (hb : EV X b tb wb) : ET X (.Compare a [.GtE] [b] pos) (tTest (tOp (rI0 fun i j => .bl (decide (j ≤ i))) ta tb)) (wB (wOp (gI0 fun i j => .bool (decide (j ≤ i))) wa wb)) := et_cmp op_ge (lift_I0 fun _ _ _ => .bl _) ha hb (nomark _)
theorem et_eq (hu : X.A.units + 64 < cLine) (ha : EV X a ta wa) (hb : EV X b tb wb) : ET X (.Compare a [.Eq] [b] pos) (tTest (tOp (rEqD X.K) ta tb)) (wB (wOp gEq wa wb)) := et_cmp (op_eqD hu) lift_eq ha hb (nomark _)
theorem et_ne (hu : X.A.units + 64 < cLine) (ha : EV X a ta wa) (hb : EV X b tb wb) : ET X (.Compare a [.NotEq] [b] pos) (tTest (tOp (rNeD X.K) ta tb)) (wB (wOp gNe wa wb)) := et_cmp (op_neD hu) lift_ne ha hb (nomark _)
theorem et_neO (hu : X.A.units + 64 < cLine) (i : Nat) {x : Str} {pos' : Pos} (hb : EV X b tb wb) (hN : X.N[i]? = some x := by rfl) (hv : Vis X.env.scope x := by first | exact Or.inl rfl | exact Or.inr (Or.inl rfl) | exact Or.inr (Or.inr rfl)) (hd : (x == ("__debug__" : Str)) = false := by decide)
    (hcd : (x == ("__classdict__" : Str)) = false := by decide) :
    ET X (.Compare (.Name x pos') [.NotEq] [b] pos) (tTest (tOp (rNeD X.K) (tVar i) tb)) (wB (wNeO i wb)) :=
  ⟨pt_cmpR (op_neD hu) (pe_var hN hv hd hcd) hb.pe (nomark _), snd_Test (ev_neO (pos := pos) (pos' := pos') hu i hb hN hv hd hcd).sd⟩
variable {tA tB' : TT} {wA wB' : WT} {rest : List Expr}
def wAnd (w u : WT) : WT := fun ρ P => w ρ fun c ρ1 => if c = true then u ρ1 P else P false ρ1
def wOr (w u : WT) : WT := fun ρ P => w ρ fun c ρ1 => if c = true then P true ρ1 else u ρ1 P
def wNot (w : WT) : WT := fun ρ P => w ρ fun c ρ1 => P (!c) ρ1
structure EW (X : Cx) (e : Expr) (t : TT) (w : WT) : Prop where
  pw : PW X e t
  sd : SndT X.K t w
theorem EW.et {e : Expr} {t : TT} {w : WT} (h : EW X e t w) : ET X e t w := ⟨h.pw.pt, h.sd⟩
theorem ew_and1 (ha : ET X a tA wA) : EW X (.BoolOp .And [a] pos) tA wA := ⟨pw_and1 ha.pt, ha.sd⟩
theorem ew_or1 (ha : ET X a tA wA) : EW X (.BoolOp .Or [a] pos) tA wA := ⟨pw_or1 ha.pt, ha.sd⟩
theorem ew_and (ha : ET X a tA wA) (hb : EW X (.BoolOp .And (b :: rest) pos) tB' wB') : EW X (.BoolOp .And (a :: b :: rest) pos) (tAnd tA tB') (wAnd wA wB') := ⟨pw_and ha.pt hb.pw, fun F ρ P σ S H Q hw R q =>
  ha.sd F ρ _ σ S H _ hw R fun c ρ1 S1 H1 h1 R1 s1 => by
    cases c with
    | true =>
      rw [if_pos rfl] at h1 ⊢
      exact hb.sd F ρ1 _ σ S1 H1 Q h1 R1 fun b ρ2 S2 H2 h2 R2 s2 => q b ρ2 S2 H2 h2 R2 (s1.trans s2)
    | false =>
      rw [if_neg Bool.false_ne_true] at h1 ⊢
      exact q false ρ1 S1 H1 h1 R1 s1⟩
theorem ew_or (ha : ET X a tA wA) (hb : EW X (.BoolOp .Or (b :: rest) pos) tB' wB') : EW X (.BoolOp .Or (a :: b :: rest) pos) (tOr tA tB') (wOr wA wB') := ⟨pw_or ha.pt hb.pw, fun F ρ P σ S H Q hw R q =>
  ha.sd F ρ _ σ S H _ hw R fun c ρ1 S1 H1 h1 R1 s1 => by
    cases c with
    | true =>
      rw [if_pos rfl] at h1 ⊢
      exact q true ρ1 S1 H1 h1 R1 s1
    | false =>
      rw [if_neg Bool.false_ne_true] at h1 ⊢
      exact hb.sd F ρ1 _ σ S1 H1 Q h1 R1 fun b ρ2 S2 H2 h2 R2 s2 => q b ρ2 S2 H2 h2 R2 (s1.trans s2)⟩
theorem et_not (ha : ET X a tA wA) : ET X (.UnaryOp .Not a pos) (tNot tA) (wNot wA) := ⟨pt_not ha.pt, fun F ρ P σ S H Q hw R q => ha.sd F ρ _ σ S H _ hw R fun c ρ1 S1 H1 h1 R1 s1 => q _ ρ1 S1 H1 h1 R1 s1⟩
/-! ### .. as values -/
def wAndV (wa wb : W1) : W1 := fun ρ P => wa ρ fun x ρ1 => match x with
  | .bool true => wb ρ1 P
  | .bool false => P (.bool false) ρ1
  | _ => False
def wOrV (wa wb : W1) : W1 := fun ρ P => wa ρ fun x ρ1 => match x with
  | .bool true => P (.bool true) ρ1
  | .bool false => wb ρ1 P
  | _ => False
def wNotV (wa : W1) : W1 := fun ρ P => wa ρ fun x ρ1 => match x with
  | .bool c => P (.bool (!c)) ρ1
  | _ => False
theorem ev_one {op} {t : TE} {w : W1} (h : EV X a t w) : EV X (.BoolOp op [a] pos) t w := ⟨pe_one h.pe, h.sd⟩
theorem ev_and (ha : EV X a ta wa) (hb : EV X (.BoolOp .And (b :: rest) pos) tb wb) : EV X (.BoolOp .And (a :: b :: rest) pos) (tAndV ta tb) (wAndV wa wb) := ⟨pe_and ha.pe hb.pe, fun F ρ P σ S H Q hw R q =>
  ha.sd F ρ _ σ S H _ hw R fun x ρ1 v S1 H1 h1 R1 s1 d1 => by
    split at h1
    · cases d1
      exact ⟨true, rfl, hb.sd F ρ1 _ σ S1 H1 Q h1 R1 fun y ρ2 v2 S2 H2 h2 R2 s2 d2 => q y ρ2 v2 S2 H2 h2 R2 (s1.trans s2) d2⟩
    · cases d1
      exact ⟨false, rfl, q _ ρ1 _ S1 H1 h1 R1 s1 (.bl false)⟩
    · exact h1.elim⟩
theorem ev_or (ha : EV X a ta wa) (hb : EV X (.BoolOp .Or (b :: rest) pos) tb wb) : EV X (.BoolOp .Or (a :: b :: rest) pos) (tOrV ta tb) (wOrV wa wb) := ⟨pe_or ha.pe hb.pe, fun F ρ P σ S H Q hw R q =>
  ha.sd F ρ _ σ S H _ hw R fun x ρ1 v S1 H1 h1 R1 s1 d1 => by
    split at h1
    · cases d1
      exact ⟨true, rfl, q _ ρ1 _ S1 H1 h1 R1 s1 (.bl true)⟩
    · cases d1
      exact ⟨false, rfl, hb.sd F ρ1 _ σ S1 H1 Q h1 R1 fun y ρ2 v2 S2 H2 h2 R2 s2 d2 => q y ρ2 v2 S2 H2 h2 R2 (s1.trans s2) d2⟩
    · exact h1.elim⟩
theorem ev_not (ha : EV X a ta wa) : EV X (.UnaryOp .Not a pos) (tNotV ta) (wNotV wa) := ⟨pe_not ha.pe, fun F ρ P σ S H Q hw R q =>
  ha.sd F ρ _ σ S H _ hw R fun x ρ1 v S1 H1 h1 R1 s1 d1 => by
    split at h1
    · cases d1
      exact ⟨_, rfl, q _ ρ1 _ S1 H1 h1 R1 s1 (.bl _)⟩
    · exact h1.elim⟩
def wIf (w : WT) (wa wb : W1) : W1 := fun ρ P => w ρ fun c ρ1 => if c = true then wa ρ1 P else wb ρ1 P
theorem ev_if (hc : ET X c tA wA) (ha : EV X a ta wa) (hb : EV X b tb wb) : EV X (.IfExp c a b pos) (tIf tA ta tb) (wIf wA wa wb) := ⟨pe_ifExp hc.pt ha.pe hb.pe, fun F ρ P σ S H Q hw R q =>
  hc.sd F ρ _ σ S H _ hw R fun c ρ1 S1 H1 h1 R1 s1 => by
    cases c with
    | true =>
      rw [if_pos rfl] at h1 ⊢
      exact ha.sd F ρ1 _ σ S1 H1 Q h1 R1 fun y ρ2 v2 S2 H2 h2 R2 s2 d2 => q y ρ2 v2 S2 H2 h2 R2 (s1.trans s2) d2
    | false =>
      rw [if_neg Bool.false_ne_true] at h1 ⊢
      exact hb.sd F ρ1 _ σ S1 H1 Q h1 R1 fun y ρ2 v2 S2 H2 h2 R2 s2 d2 => q y ρ2 v2 S2 H2 h2 R2 (s1.trans s2) d2⟩
/-! ### is None -/
theorem ev_isN {j pos'} (ha : EV X a ta wa) : EV X (.Compare a [.Is] [.Constant .none j pos'] pos) (tIsN ta) (wIsN wa) := ⟨pe_cmp (pc_isN ha.pe) (by rfl), fun F ρ P σ S H Q hw R q =>
  ha.sd F ρ _ σ S H _ hw R fun x ρ1 v S1 H1 h1 R1 s1 d1 => by
    have e : decide (v = V.non) = isNone x := by cases d1 <;> rfl
    rw [e]
    exact q _ ρ1 _ S1 H1 h1 R1 s1 (.bl _)⟩

/-! ### displays -/
def wNil : WA := fun ρ P => P [] ρ
def wCons (wa : W1) (wr : WA) : WA := fun ρ P => wa ρ fun x ρ1 => wr ρ1 fun xs ρ2 => P (x :: xs) ρ2
variable {es : List Expr} {tr : TA} {wr : WA}
theorem ea_nil : EA X [] tNil wNil := ⟨pa_nil, fun F ρ P σ S H Q hw R q => q [] ρ [] S H hw R (Same.refl S) .nil⟩
theorem ea_cons (ha : EV X a ta wa) (hr : EA X es tr wr) (hs : starEach (a :: es) X.env = (false, eval a X.env) :: starEach es X.env := by rfl) : EA X (a :: es) (tCons ta tr) (wCons wa wr) := ⟨pa_cons ha.pe hr.pa hs, fun F ρ P σ S H Q hw R q =>
  ha.sd F ρ _ σ S H _ hw R fun x ρ1 v S1 H1 h1 R1 s1 d1 => hr.sd F ρ1 _ σ S1 H1 _ h1 R1 fun xs ρ2 vs S2 H2 h2 R2 s2 d2 => q _ ρ2 _ S2 H2 h2 R2 (s1.trans s2) (.cons (dp_mono s2 x v d1) d2)⟩
theorem ev_tup {x1} (h : EA X es tr wr) : EV X (.Tuple es x1 pos) (tTup tr) (wTup wr) := ⟨pe_tup h.pa, fun F ρ P σ S H Q hw R q =>
  h.sd F ρ _ σ S H _ hw R fun ds ρ1 vs S1 H1 h1 R1 s1 d1 => ⟨by rw [d1.len]; exact h1.1, fun p n =>
    q _ ρ1 _ _ _ h1.2 (R1.new n (.tup vs)) (s1.trans (same_new (same_none R1.sub n))) (.tup (SqT.of upd_same) (dpAll_mono (same_new (same_none R1.sub n)) ds vs d1))⟩⟩
theorem en_lst (h : EA X es tr wr) : EN X (.List es pos) (tLst tr) (wLst wr) := ⟨pe_lst h.pa, fun F ρ P σ S H Q hw R q =>
  h.sd F ρ _ σ S H _ hw R fun ds ρ1 vs S1 H1 h1 R1 s1 d1 => ⟨by rw [d1.len]; exact h1.1, fun p n => q ds ρ1 p vs S1 _ h1.2 (R1.lay n _) s1 (R1.bare n) d1⟩⟩
end
end Tr
set_option Elab.async false
set_option linter.all false
set_option maxRecDepth 100000
set_option maxHeartbeats 2000000
/-! Tr3: statements, targets, loops, comprehensions, defs -/
namespace Tr
open PySem PySem.Spec PyProof.Rows L2
variable [Tabbed]

/-- what is wanted behind a statement, over trees -/
structure Nd where
  nx : En → Prop
  rt : PyData → En → Prop
  bk : En → Prop := fun _ => False
  ct : En → Prop := fun _ => False
  rn : List PyData → En → Prop := fun _ _ => False
structure Tie (K : PySem.W.Frag) (F : Fm) (S : Hp) (N : Nd) (D : Ends) : Prop where
  nx : ∀ ρ' σ' S' H', N.nx ρ' → Rep K F S' H' σ' ρ' → Same S S' → D.nx σ' H'
  rt : ∀ d ρ' v σ' S' H', N.rt d ρ' → Rep K F S' H' σ' ρ' → Same S S' → Dq K S' v d → D.rt v H'
  bk : ∀ ρ' σ' S' H', N.bk ρ' → Rep K F S' H' σ' ρ' → Same S S' → D.bk σ' H'
  ct : ∀ ρ' σ' S' H', N.ct ρ' → Rep K F S' H' σ' ρ' → Same S S' → D.ct σ' H'
  rn : ∀ ds ρ' p vs σ' S' H', N.rn ds ρ' → Rep K F S' H' σ' ρ' → Same S S' → Bare F S' H' σ' ρ' p vs → DqAll K S' vs ds → D.rt (.ref p) H'
theorem Tie.mono {K : PySem.W.Frag} {F : Fm} {S S' : Hp} {N : Nd} {D : Ends} (T : Tie K F S N D) (e : Same S S') : Tie K F S' N D :=
  ⟨fun a b c d h r s => T.nx a b c d h r (e.trans s), fun a b c d e' f h r s => T.rt a b c d e' f h r (e.trans s), fun a b c d h r s => T.bk a b c d h r (e.trans s), fun a b c d h r s => T.ct a b c d h r (e.trans s), fun a b c d f g h i r s j k => T.rn a b c d f g h i r (e.trans s) j k⟩
abbrev WS := En → Nd → Prop
def SndS (K : PySem.W.Frag) (t : TS) (w : WS) : Prop :=
  ∀ (F : Fm) (ρ : En) (N : Nd) (σ : L2.St) (S H : Hp) (D : Ends), w ρ N → Rep K F S H σ ρ → Tie K F S N D → t D σ H
structure SV (X : Cx) (st : Stmt) (t : TS) (w : WS) : Prop where
  ps : PS X st t
  sd : SndS X.K t w
structure SVs (X : Cx) (st : List Stmt) (t : TS) (w : WS) : Prop where
  ps : PSs X st t
  sd : SndS X.K t w
abbrev WG := PyData → En → (En → Prop) → Prop
abbrev WGs := List PyData → En → (En → Prop) → Prop
def Agr (ts : List Nat) (σ σ' : L2.St) : Prop := σ'.length = σ.length ∧ ∀ j, j ∉ ts → σ'[j]? = σ[j]?
def SndG (K : PySem.W.Frag) (g : TG) (ts : List Nat) (w : WG) : Prop :=
  ∀ (F : Fm) (ρ : En) (P : En → Prop) (σ : L2.St) (S H : Hp) (v : V) (d : PyData) (Q : L2.St → Hp → Prop), w d ρ P → Rep K F S H σ ρ → Dq K S v d → (∀ ρ' σ', P ρ' → Rep K F S H σ' ρ' → Agr ts σ σ' → Q σ' H) → g v σ H Q
def SndGs (K : PySem.W.Frag) (g : TGs) (ts : List Nat) (w : WGs) : Prop :=
  ∀ (F : Fm) (ρ : En) (P : En → Prop) (σ : L2.St) (S H : Hp) (vs : List V) (ds : List PyData) (Q : L2.St → Hp → Prop), w ds ρ P → Rep K F S H σ ρ → DqAll K S vs ds → (∀ ρ' σ', P ρ' → Rep K F S H σ' ρ' → Agr ts σ σ' → Q σ' H) → g vs σ H Q
structure GV (X : Cx) (tg : Expr) (g : TG) (ts : List Nat) (w : WG) : Prop where
  pg : PG X tg g
  sd : SndG X.K g ts w
structure GVs (X : Cx) (tg : List Expr) (g : TGs) (ts : List Nat) (w : WGs) : Prop where
  pg : PGs X tg g
  sd : SndGs X.K g ts w

/-- what comes behind -/
def Later (w : WS) (ρ : En) (N : Nd) : Prop := w ρ N
theorem Later.now {w : WS} {ρ : En} {N : Nd} (h : w ρ N) : Later w ρ N := h
def wRet (we : W1) : WS := fun ρ N => we ρ N.rt
def wRetN (wn : WA) : WS := fun ρ N => wn ρ N.rn
def wExpr (we : W1) : WS := fun ρ N => we ρ fun _ ρ' => N.nx ρ'
def wAsg (we : W1) (wg : WG) : WS := fun ρ N => we ρ fun d ρ' => wg d ρ' N.nx
def wSet (i : Nat) (we : W1) : WS := fun ρ N => we ρ fun d ρ' => N.nx (ρ'.set i (.val d))
def wSetN (i : Nat) (wn : WA) : WS := fun ρ N => wn ρ fun ds ρ' => N.nx (ρ'.set i (.own false ds))
def wPar (i j : Nat) (wa wb : W1) : WS := fun ρ N => wa ρ fun d ρ1 => wb ρ1 fun e ρ2 => N.nx ((ρ2.set i (.val d)).set j (.val e))
def wParV0 (i j : Nat) (wa : W1) : WS := fun ρ N => wa ρ fun d ρ1 => N.nx ((ρ1.set i (.val d)).set j (.own false []))
def wParN0 (i j : Nat) (wn : WA) : WS := fun ρ N => wn ρ fun ds ρ1 => N.nx ((ρ1.set i (.own false ds)).set j (.own false []))
def wAugI (i : Nat) (we : W1) : WS := fun ρ N => wLook i ρ fun x _ => asInt x fun n => we ρ fun d ρ' => asInt d fun m => N.nx (ρ'.set i (.val (.int (n + m))))
def wgNil : WGs := fun ds ρ P => ds = [] ∧ P ρ
def wgCons (wg : WG) (wgs : WGs) : WGs := fun ds ρ P => match ds with | [] => False | d :: r => wg d ρ fun ρ' => wgs r ρ' P
section
variable {X : Cx} {st : Stmt} {rest : List Stmt} {t u : TS} {w w' : WS} {pos : Pos} {e : Expr} {te : TE} {we : W1}
/-! ### blocks -/
def wSeq (w w' : WS) : WS := fun ρ N => w ρ { N with nx := fun ρ' => Later w' ρ' N }
def wNext : WS := fun ρ N => N.nx ρ
theorem svs_nil : SVs X [] tNext wNext := ⟨pss_nil, fun F ρ N σ S H D hw R T => T.nx ρ σ S H hw R (Same.refl S)⟩
theorem svs_cons (h1 : SV X st t w) (h2 : SVs X rest u w') : SVs X (st :: rest) (tSeq t u) (wSeq w w') := ⟨pss_cons h1.ps h2.ps, fun F ρ N σ S H D hw R T =>
  h1.sd F ρ _ σ S H _ hw R ⟨fun ρ' σ' S' H' h r s => h2.sd F ρ' N σ' S' H' D h r (T.mono s), T.rt, T.bk, T.ct, T.rn⟩⟩
theorem svs_one (h1 : SV X st t w) : SVs X [st] t w := ⟨pss_one h1.ps, h1.sd⟩
theorem sv_pass : SV X (.Pass pos) tNext wNext := ⟨ps_pass, fun F ρ N σ S H D hw R T => T.nx ρ σ S H hw R (Same.refl S)⟩
theorem sv_ret (h : EV X e te we) : SV X (.Return (some e) pos) (tRet te) (wRet we) := ⟨ps_ret h.pe, fun F ρ N σ S H D hw R T =>
  h.sd F ρ _ σ S H _ hw R fun d ρ' v S' H' hp R' sm hd => T.rt d ρ' v σ S' H' hp R' sm hd⟩
/-- return of a new list -/
theorem sv_retN {wn : WA} (h : EN X e te wn) : SV X (.Return (some e) pos) (tRet te) (wRetN wn) := ⟨ps_ret h.pe, fun F ρ N σ S H D hw R T =>
  h.sd F ρ _ σ S H _ hw R fun ds ρ' p vs S' H' hp R' sm B hd => T.rn ds ρ' p vs σ S' H' hp R' sm B hd⟩
theorem sv_expr (h : EV X e te we) (hs : swapsWith e none pos.line X.env = pure false := by rfl) : SV X (.Expr e pos) (tDrop te) (wExpr we) := ⟨ps_expr h.pe hs, fun F ρ N σ S H D hw R T =>
  h.sd F ρ _ σ S H _ hw R fun d ρ' v S' H' hp R' sm hd => T.nx ρ' σ S' H' hp R' sm⟩
def wIfS (c : WT) (w w' : WS) : WS := fun ρ N => c ρ fun b ρ1 => if b = true then Later w ρ1 N else Later w' ρ1 N
theorem sv_if {c : Expr} {a b : List Stmt} {tc : TT} {wc : WT} (hc : ET X c tc wc) (ha : SVs X a t w) (hb : SVs X b u w') : SV X (.If c a b pos) (tIfS tc t u) (wIfS wc w w') := ⟨ps_if hc.pt ha.ps hb.ps, fun F ρ N σ S H D hw R T =>
  hc.sd F ρ _ σ S H _ hw R fun b ρ1 S1 H1 h1 R1 s1 => by
    cases b with
    | true =>
      rw [if_pos rfl] at h1 ⊢
      exact ha.sd F ρ1 N σ S1 H1 D h1 R1 (T.mono s1)
    | false =>
      rw [if_neg Bool.false_ne_true] at h1 ⊢
      exact hb.sd F ρ1 N σ S1 H1 D h1 R1 (T.mono s1)⟩

/-! ### targets -/
def gvName (i : Nat) : WG := fun d ρ P => P (ρ.set i (.val d))
theorem gv_name (i : Nat) {x : Str} (hN : X.N.Nodup) (hi : X.N[i]? = some x := by rfl) (hx : Loc X.env.scope x := by first | exact Or.inl rfl | exact Or.inr rfl) (hf : X.fn x = true ∨ X.env.scope.names.lookup x = some .local := by first | exact .inl rfl | exact .inr rfl | assumption) : GV X (.Name x pos) (gName i) [i] (gvName i) :=
  ⟨pg_name hN hi hx hf, fun F ρ P σ S H v d Q hw R hd q => q _ _ hw (R.set i hd) ⟨by rw [List.length_set], fun j hj => by rw [List.getElem?_set_ne (fun z => hj (by simp [z]))]⟩⟩
theorem gvs_nil : GVs X [] gNil [] wgNil := ⟨pgs_nil, fun F ρ P σ S H vs ds Q hw R hd q => by
  obtain ⟨rfl, hw⟩ := hw
  cases hd
  exact ⟨rfl, q _ _ hw R ⟨rfl, fun _ _ => rfl⟩⟩⟩
theorem gvs_cons {es : List Expr} {g : TG} {gs : TGs} {wg : WG} {wgs : WGs} {ts us : List Nat} (h1 : GV X e g ts wg) (h2 : GVs X es gs us wgs) (hs : (assignEach (e :: es) X.env).map (·.2) = assign e X.env :: (assignEach es X.env).map (·.2) := by rfl) :
    GVs X (e :: es) (gCons g gs) (ts ++ us) (wgCons wg wgs) := ⟨pgs_cons h1.pg h2.pg hs, fun F ρ P σ S H vs ds Q hw R hd q => by
  cases ds with
  | nil => exact hw.elim
  | cons d r =>
    cases hd with
    | cons d1 d2 => exact ⟨_, _, rfl, h1.sd F ρ _ σ S H _ d _ hw R d1 fun ρ' σ' h R' a1 => h2.sd F ρ' P σ' S H _ r Q h R' d2 fun ρ2 σ2 h2 R2 a2 => q ρ2 σ2 h2 R2 ⟨a2.1.trans a1.1, fun j hj => (a2.2 j fun z => hj (List.mem_append_right _ z)).trans (a1.2 j fun z => hj (List.mem_append_left _ z))⟩⟩⟩
/-- (a, b, ..) = a list or tuple of that length -/
def gSeq (K : PySem.W.Frag) (n : Nat) (t : TGs) : TG := fun v σ H Q => gTup K n t v σ H Q ∨ gUnl K n t v σ H Q
theorem pg_seq {es : List Expr} {k : Nat} {t : TGs} {n : Nat} (hc : X.calm = true) (h : PGs X es t) (hn : (assignEach es X.env).length = n := by rfl) (hst : (assignEach es X.env).findIdx? (·.1) = none := by rfl) : PG X (.Tuple es k pos) (gSeq X.K n t) := by
  refine ⟨fun pins s σ H v u Q I r hw => ?_⟩
  rcases hw with hw | hw
  · exact (pg_tup hc h hn hst).run pins s σ H v u Q I r hw
  · exact (pg_unl hc h hn hst).run pins s σ H v u Q I r hw
def wgSeq (n : Nat) (wgs : WGs) : WG := fun d ρ P => match d with
  | .list ds => ds.length = n ∧ wgs ds ρ P
  | .tuple ds => ds.length = n ∧ wgs ds ρ P
  | _ => False
theorem gv_seq {es : List Expr} {k : Nat} {gs : TGs} {wgs : WGs} {n : Nat} {ts : List Nat} (hc : X.calm = true) (h : GVs X es gs ts wgs) (hn : (assignEach es X.env).length = n := by rfl) (hst : (assignEach es X.env).findIdx? (·.1) = none := by rfl) :
    GV X (.Tuple es k pos) (gSeq X.K n gs) ts (wgSeq n wgs) := ⟨pg_seq hc h.pg hn hst, fun F ρ P σ S H v d Q hw R hd q => by
  unfold wgSeq at hw
  split at hw
  · cases hd with
    | lst h1 h2 => exact .inr ⟨_, _, rfl, same_sqL R.sub h1, by rw [h2.len]; exact hw.1, h.sd F ρ P σ S H _ _ Q hw.2 R h2 q⟩
  · cases hd with
    | tup h1 h2 => exact .inl ⟨_, _, rfl, same_sqT R.sub h1, by rw [h2.len]; exact hw.1, h.sd F ρ P σ S H _ _ Q hw.2 R h2 q⟩
  · exact hw.elim⟩
/-! ### assignments -/
theorem sv_asg {tg : Expr} {g : TG} {wg : WG} {ts : List Nat} (he : EV X e te we) (hg : GV X tg g ts wg) (hs : swapsWithSole [tg] e pos.line X.env = pure false := by rfl) (hw : swappedStores [tg] e X.env = pure none := by rfl)
    (h1 : (assignEach [tg] X.env).map (·.2) = [assign tg X.env] := by rfl) : SV X (.Assign [tg] e pos) (tAsg te g) (wAsg we wg) := ⟨ps_asg he.pe hg.pg hs hw h1, fun F ρ N σ S H D hw R T =>
  he.sd F ρ _ σ S H _ hw R fun d ρ' v S' H' hp R' sm hd => hg.sd F ρ' _ σ S' H' v d _ hp R' hd fun ρ2 σ2 h2 R2 _ => T.nx ρ2 σ2 S' H' h2 R2 sm⟩
theorem sv_set (i : Nat) {x : Str} {pos' : Pos} (hN : X.N.Nodup) (he : EV X e te we) (hi : X.N[i]? = some x := by rfl) (hx : Loc X.env.scope x := by first | exact Or.inl rfl | exact Or.inr rfl) (hs : swapsWith e (some (.Name x pos')) pos.line X.env = pure false := by rfl) (hf : X.fn x = true ∨ X.env.scope.names.lookup x = some .local := by first | exact .inl rfl | exact .inr rfl | assumption) :
    SV X (.Assign [.Name x pos'] e pos) (tAsg te (gName i)) (wSet i we) := ⟨ps_set hN hi hx he.pe hs hf, fun F ρ N σ S H D hw R T =>
  he.sd F ρ _ σ S H _ hw R fun d ρ' v S' H' hp R' sm hd => T.nx _ _ S' H' hp (R'.set i hd) sm⟩
/-- the slot gets a list of its own -/
theorem sv_setN (i : Nat) {x : Str} {pos' : Pos} {wn : WA} (hN : X.N.Nodup) (he : EN X e te wn) (hi : X.N[i]? = some x := by rfl) (hx : Loc X.env.scope x := by first | exact Or.inl rfl | exact Or.inr rfl) (hs : swapsWith e (some (.Name x pos')) pos.line X.env = pure false := by rfl) (hf : X.fn x = true ∨ X.env.scope.names.lookup x = some .local := by first | exact .inl rfl | exact .inr rfl | assumption) :
    SV X (.Assign [.Name x pos'] e pos) (tAsg te (gName i)) (wSetN i wn) := ⟨ps_set hN hi hx he.pe hs hf, fun F ρ N σ S H D hw R T =>
  he.sd F ρ _ σ S H _ hw R fun ds ρ' p vs S' H' hp R' sm B hd => T.nx _ _ S' H' hp (R'.setOwn i B.at_ B.s B.h0 B.ap hd) sm⟩
section
variable {i j : Nat} {x y : Str} {a b : Expr} {ta tb : TE} {wa wb : W1} {wn : WA} {px py pt pl : Pos} {kt k2 : Nat} {pt2 : Pos}
/-- a, b = e1, e2 -/
theorem sv_par (i j : Nat) (hc : X.calm = true) (hN : X.N.Nodup) (ha : EV X a ta wa) (hb : EV X b tb wb) (hi : X.N[i]? = some x := by rfl) (hj : X.N[j]? = some y := by rfl) (hij : i ≠ j := by decide)
    (hx : X.env.scope.names.lookup x = some .local := by rfl) (hy : X.env.scope.names.lookup y = some .local := by rfl)
    (hw : swappedStores [.Tuple [.Name x px, .Name y py] kt pt] (.Tuple [a, b] k2 pt2) X.env = pure (some [x, y]) := by rfl)
    (hs : swapsWithSole [.Tuple [.Name x px, .Name y py] kt pt] (.Tuple [a, b] k2 pt2) pos.line X.env = pure false := by rfl)
    (h1 : starEach [a, b] X.env = (false, eval a X.env) :: starEach [b] X.env := by rfl) (h2 : starEach [b] X.env = (false, eval b X.env) :: starEach [] X.env := by rfl) :
    SV X (.Assign [.Tuple [.Name x px, .Name y py] kt pt] (.Tuple [a, b] k2 pt2) pos) (tPar i j (tCons ta (tCons tb tNil))) (wPar i j wa wb) :=
  ⟨ps_par hc hN hi hj hij hx hy (pa_cons ha.pe (pa_cons hb.pe pa_nil h2) h1) hw hs, fun F ρ N σ S H D hw R T =>
  ha.sd F ρ _ σ S H _ hw R fun d ρ1 v S1 H1 q1 R1 s1 d1 => hb.sd F ρ1 _ σ S1 H1 _ q1 R1 fun e ρ2 u S2 H2 q2 R2 s2 d2 =>
    ⟨v, u, rfl, T.nx _ _ S2 H2 q2 ((R2.set i (dp_mono s2 d v d1)).set j d2) (s1.trans s2)⟩⟩
/-- a, b = e1, [] -/
theorem sv_parV0 (i j : Nat) (hc : X.calm = true) (hN : X.N.Nodup) (ha : EV X a ta wa) (hi : X.N[i]? = some x := by rfl) (hj : X.N[j]? = some y := by rfl) (hij : i ≠ j := by decide)
    (hx : X.env.scope.names.lookup x = some .local := by rfl) (hy : X.env.scope.names.lookup y = some .local := by rfl)
    (hw : swappedStores [.Tuple [.Name x px, .Name y py] kt pt] (.Tuple [a, .List [] pl] k2 pt2) X.env = pure (some [x, y]) := by rfl)
    (hs : swapsWithSole [.Tuple [.Name x px, .Name y py] kt pt] (.Tuple [a, .List [] pl] k2 pt2) pos.line X.env = pure false := by rfl)
    (h1 : starEach [a, .List [] pl] X.env = (false, eval a X.env) :: starEach [.List [] pl] X.env := by rfl) (h2 : starEach [.List [] pl] X.env = (false, eval (.List [] pl) X.env) :: starEach [] X.env := by rfl) :
    SV X (.Assign [.Tuple [.Name x px, .Name y py] kt pt] (.Tuple [a, .List [] pl] k2 pt2) pos) (tPar i j (tCons ta (tCons (tLst tNil) tNil))) (wParV0 i j wa) :=
  ⟨ps_par hc hN hi hj hij hx hy (pa_cons ha.pe (pa_cons (pe_lst pa_nil) pa_nil h2) h1) hw hs, fun F ρ N σ S H D hw R T =>
  ha.sd F ρ _ σ S H _ hw R fun d ρ1 v S1 H1 q1 R1 s1 d1 => ⟨Nat.zero_le _, fun p n => ⟨v, .ref p, rfl, by
    have R2 := R1.lay n (.lst [])
    have B : Bare F S1 (upd H1 p (.lst [])) σ ρ1 p [] := R1.bare n
    have R3 := R2.set i d1
    refine T.nx _ _ S1 _ q1 (R3.setOwn (p := p) (vs := []) j B.at_ B.s B.h0 (fun k m ds e z => ?_) .nil) s1
    rcases get_set e with ⟨rfl, e, _⟩ | ⟨hk, e⟩
    · cases e
    · rw [List.getElem?_set_ne (Ne.symm hk)] at z
      exact B.ap k m ds e z⟩⟩⟩
/-- a, b = a new list, [] -/
theorem sv_parN0 (i j : Nat) (hc : X.calm = true) (hN : X.N.Nodup) (ha : EN X a ta wn) (hi : X.N[i]? = some x := by rfl) (hj : X.N[j]? = some y := by rfl) (hij : i ≠ j := by decide)
    (hx : X.env.scope.names.lookup x = some .local := by rfl) (hy : X.env.scope.names.lookup y = some .local := by rfl)
    (hw : swappedStores [.Tuple [.Name x px, .Name y py] kt pt] (.Tuple [a, .List [] pl] k2 pt2) X.env = pure (some [x, y]) := by rfl)
    (hs : swapsWithSole [.Tuple [.Name x px, .Name y py] kt pt] (.Tuple [a, .List [] pl] k2 pt2) pos.line X.env = pure false := by rfl)
    (h1 : starEach [a, .List [] pl] X.env = (false, eval a X.env) :: starEach [.List [] pl] X.env := by rfl) (h2 : starEach [.List [] pl] X.env = (false, eval (.List [] pl) X.env) :: starEach [] X.env := by rfl) :
    SV X (.Assign [.Tuple [.Name x px, .Name y py] kt pt] (.Tuple [a, .List [] pl] k2 pt2) pos) (tPar i j (tCons ta (tCons (tLst tNil) tNil))) (wParN0 i j wn) :=
  ⟨ps_par hc hN hi hj hij hx hy (pa_cons ha.pe (pa_cons (pe_lst pa_nil) pa_nil h2) h1) hw hs, fun F ρ N σ S H D hw R T =>
  ha.sd F ρ _ σ S H _ hw R fun ds ρ1 o vs S1 H1 q1 R1 s1 B1 d1 => ⟨Nat.zero_le _, fun p n => ⟨.ref o, .ref p, rfl, by
    have R2 := R1.lay n (.lst [])
    have B : Bare F S1 (upd H1 p (.lst [])) σ ρ1 p [] := R1.bare n
    have ne : o ≠ p := ne_of_none B1.at_ n
    have R3 := R2.setOwn (p := o) (vs := vs) i (by rw [upd_ne ne]; exact B1.at_) B1.s B1.h0 B1.ap d1
    refine T.nx _ _ S1 _ q1 (R3.setOwn (p := p) (vs := []) j B.at_ B.s B.h0 (fun k m es e z => ?_) .nil) s1
    rcases get_set e with ⟨rfl, e, hl⟩ | ⟨hk, e⟩
    · rw [List.getElem?_set_self (by rw [R2.len]; exact hl)] at z
      cases z
      exact ne rfl
    · rw [List.getElem?_set_ne (Ne.symm hk)] at z
      exact B.ap k m es e z⟩⟩⟩
end

/-! ### for -/
/-- a list, or a tuple: which one is said ahead -/
def iSeq (K : PySem.W.Frag) (tl : TE) : TI := fun σ H R => iList K tl σ H R ∨ iTup K tl σ H R
theorem pi_seq {tg l : Expr} {tl : TE} (hl : PE X l tl) : PI X tg l (iSeq X.K tl) :=
  ⟨fun pins s σ H R I h => h.elim (fun h => (pi_list hl).run pins s σ H R I h) fun h => (pi_tup hl).run pins s σ H R I h⟩
def seqOf (tupS : Bool) (ds : List PyData) : PyData := if tupS = true then .tuple ds else .list ds
def wFor (we : W1) (wg : WG) (wb : WS) : WS := fun ρ N => ∃ tupS : Bool, we ρ fun d ρ1 => ∃ ds, d = seqOf tupS ds ∧ ∃ I : Nat → En → Prop, I 0 ρ1 ∧
  (∀ k x ρ2, ds[k]? = some x → I k ρ2 → wg x ρ2 fun ρ3 => Later wb ρ3 { N with nx := I (k + 1), ct := I (k + 1), bk := N.nx }) ∧ ∀ ρ2, I ds.length ρ2 → N.nx ρ2
theorem sv_for {tg it : Expr} {body : List Stmt} {ti : TE} {wi : W1} {g : TG} {wg : WG} {tb : TS} {wb : WS} {ts : List Nat} (hi : EV X it ti wi) (hg : GV X tg g ts wg) (hb : SVs X body tb wb)
    (hp : PassesOwn (model X.prog X.w) X.A X.env X.xe) (hc : X.calm = true) (hs : ∀ x, foldedSetIterable it X.env x = pure x := by intro _; rfl) : SV X (.For tg it body [] pos) (tFor (iSeq X.K ti) g tb) (wFor wi wg wb) := ⟨ps_for hp hc (pi_seq hi.pe) hg.pg hb.ps hs, fun F ρ N σ S H D hw R T => by
  obtain ⟨tupS, hw⟩ := hw
  have step : ∀ (ds : List PyData) (I : Nat → En → Prop) (xs : List V) (S1 : Hp), DqAll X.K S1 xs ds → Same S S1 → (∀ k x ρ2, ds[k]? = some x → I k ρ2 → wg x ρ2 fun ρ3 => Later wb ρ3 { N with nx := I (k + 1), ct := I (k + 1), bk := N.nx }) →
      ∀ (i : Nat) (x : V) (σ : L2.St) (H : Hp), xs[i]? = some x → (∃ S' ρ', Rep X.K F S' H σ ρ' ∧ Same S1 S' ∧ I i ρ') →
        g x σ H fun σ2 H2 => tb { D with nx := fun σ H => ∃ S' ρ', Rep X.K F S' H σ ρ' ∧ Same S1 S' ∧ I (i + 1) ρ', ct := fun σ H => ∃ S' ρ', Rep X.K F S' H σ ρ' ∧ Same S1 S' ∧ I (i + 1) ρ', bk := D.nx } σ2 H2 := fun ds I xs S1 hd s1 turn i x σ H hx ⟨S', ρ', R', sm, hI⟩ => by
    obtain ⟨y, hy, dy⟩ := hd.at' hx
    refine hg.sd F ρ' _ σ S' H x y _ (turn i y ρ' hy hI) R' (dp_mono sm y x dy) fun ρ3 σ3 h3 R3 _ => ?_
    refine hb.sd F ρ3 _ σ3 S' H _ h3 R3 ⟨fun ρ4 σ4 S4 H4 h4 R4 s4 => ⟨S4, ρ4, R4, sm.trans s4, h4⟩, fun d4 ρ4 v4 σ4 S4 H4 h4 R4 s4 d4' => T.rt d4 ρ4 v4 σ4 S4 H4 h4 R4 (s1.trans (sm.trans s4)) d4',
      fun ρ4 σ4 S4 H4 h4 R4 s4 => T.nx ρ4 σ4 S4 H4 h4 R4 (s1.trans (sm.trans s4)), fun ρ4 σ4 S4 H4 h4 R4 s4 => ⟨S4, ρ4, R4, sm.trans s4, h4⟩, fun d4 ρ4 p4 v4 σ4 S4 H4 h4 R4 s4 B4 k4 => T.rn d4 ρ4 p4 v4 σ4 S4 H4 h4 R4 (s1.trans (sm.trans s4)) B4 k4⟩
  cases tupS with
  | false =>
    refine .inl (hi.sd F ρ _ σ S H _ hw R fun d ρ1 v S1 H1 h1 R1 s1 d1 => ?_)
    obtain ⟨ds, ed, I, i0, turn, fin⟩ := h1
    subst ed
    cases d1 with
    | @lst a xs _ sq hd => exact ⟨a, rfl, ⟨xs, same_sqL R1.sub sq⟩, for_list (xs := xs) (fun i σ H => ∃ S' ρ', Rep X.K F S' H σ ρ' ∧ Same S1 S' ∧ I i ρ') ⟨S1, ρ1, R1, Same.refl _, i0⟩ (fun i σ H _ ⟨S', ρ', R', sm, _⟩ => same_sqL (sm.trans R'.sub) sq) (step ds I xs S1 hd s1 turn)
        fun σ H ⟨S', ρ', R', sm, hI⟩ => T.nx ρ' σ S' H (fin ρ' (hd.len ▸ hI)) R' (s1.trans sm)⟩
  | true =>
    refine .inr (hi.sd F ρ _ σ S H _ hw R fun d ρ1 v S1 H1 h1 R1 s1 d1 => ?_)
    obtain ⟨ds, ed, I, i0, turn, fin⟩ := h1
    subst ed
    cases d1 with
    | @tup a xs _ sq hd => exact ⟨a, rfl, ⟨xs, same_sqT R1.sub sq⟩, for_tup (xs := xs) (fun i σ H => ∃ S' ρ', Rep X.K F S' H σ ρ' ∧ Same S1 S' ∧ I i ρ') ⟨S1, ρ1, R1, Same.refl _, i0⟩ (fun i σ H _ ⟨S', ρ', R', sm, _⟩ => same_sqT (sm.trans R'.sub) sq) (step ds I xs S1 hd s1 turn)
        fun σ H ⟨S', ρ', R', sm, hI⟩ => T.nx ρ' σ S' H (fin ρ' (hd.len ▸ hI)) R' (s1.trans sm)⟩⟩
/-- for x in range(e) -/
def wForR (we : W1) (wg : WG) (wb : WS) : WS := fun ρ N => we ρ fun d ρ1 => asInt d fun z => -(2 ^ 62) ≤ z ∧ z < 2 ^ 62 ∧ ∃ I : Nat → En → Prop, I 0 ρ1 ∧
  (∀ (k : Nat) ρ2, k < z.toNat → I k ρ2 → wg (.int k) ρ2 fun ρ3 => Later wb ρ3 { N with nx := I (k + 1), ct := I (k + 1), bk := N.nx }) ∧ ∀ ρ2, I z.toNat ρ2 → N.nx ρ2
theorem sv_forR {tg a : Expr} {body : List Stmt} {ti : TE} {wi : W1} {g : TG} {wg : WG} {tb : TS} {wb : WS} {p rp : Pos} {ts : List Nat} (hm : X.mg "range" = none) (hi : EV X a ti wi) (hg : GV X tg g ts wg) (hb : SVs X body tb wb)
    (hp : PassesOwn (model X.prog X.w) X.A X.env X.xe) (hc : X.calm = true) (hgl : Gl X "range" := by rfl) (hst : starEach [a] X.env = [(false, eval a X.env)] := by rfl) (hs : ∀ x, foldedSetIterable (.Call (.Name "range" p) [a] [] rp) X.env x = pure x := by intro _; rfl) :
    SV X (.For tg (.Call (.Name "range" p) [a] [] rp) body [] pos) (tFor (iRng1 (tCons ti tNil)) g tb) (wForR wi wg wb) := ⟨ps_for hp hc (pi_range1 hgl hm (pa_cons hi.pe pa_nil hst) hst) hg.pg hb.ps hs, fun F ρ N σ S H D hw R T =>
  hi.sd F ρ _ σ S H _ hw R fun d ρ1 v S1 H1 h1 R1 s1 d1 => by
    obtain ⟨z, rfl, b1, b2, I, i0, turn, fin⟩ := h1.out
    cases d1
    refine ⟨z, rfl, b1, b2, for_range (lo := 0) (n := z.toNat) (fun i σ H => ∃ S' ρ', Rep X.K F S' H σ ρ' ∧ Same S1 S' ∧ I i ρ') ⟨S1, ρ1, R1, Same.refl _, i0⟩ (fun i σ H hi' ⟨S', ρ', R', sm, hI⟩ => ?_) fun σ H ⟨S', ρ', R', sm, hI⟩ => T.nx ρ' σ S' H (fin ρ' hI) R' (s1.trans sm)⟩
    rw [show (0 : Int) + (i : Int) = (i : Int) by omega]
    refine hg.sd F ρ' _ σ S' H _ _ _ (turn i ρ' hi' hI) R' (.int i) fun ρ3 σ3 h3 R3 _ => ?_
    refine hb.sd F ρ3 _ σ3 S' H _ h3 R3 ⟨fun ρ4 σ4 S4 H4 h4 R4 s4 => ⟨S4, ρ4, R4, sm.trans s4, h4⟩, fun d4 ρ4 v4 σ4 S4 H4 h4 R4 s4 d4' => T.rt d4 ρ4 v4 σ4 S4 H4 h4 R4 (s1.trans (sm.trans s4)) d4',
      fun ρ4 σ4 S4 H4 h4 R4 s4 => T.nx ρ4 σ4 S4 H4 h4 R4 (s1.trans (sm.trans s4)), fun ρ4 σ4 S4 H4 h4 R4 s4 => ⟨S4, ρ4, R4, sm.trans s4, h4⟩, fun d4 ρ4 p4 v4 σ4 S4 H4 h4 R4 s4 B4 k4 => T.rn d4 ρ4 p4 v4 σ4 S4 H4 h4 R4 (s1.trans (sm.trans s4)) B4 k4⟩⟩
/-- while: a word and a measure -/
def wWhile (wc : WT) (wb : WS) : WS := fun ρ N => ∃ (I : Nat → En → Prop), (∃ m, I m ρ) ∧ ∀ m ρ1, I m ρ1 → wc ρ1 fun b ρ2 => if b = true then Later wb ρ2 { N with nx := fun ρ' => ∃ m', m' < m ∧ I m' ρ', ct := fun ρ' => ∃ m', m' < m ∧ I m' ρ', bk := N.nx } else N.nx ρ2
theorem sv_while {c : Expr} {body : List Stmt} {tc : TT} {wc : WT} {tb : TS} {wb : WS} (hc : ET X c tc wc) (hb : SVs X body tb wb) (hp : PassesOwn (model X.prog X.w) X.A X.env X.xe) : SV X (.While c body [] pos) (tWhile tc tb) (wWhile wc wb) := ⟨ps_while hp hc.pt hb.ps, fun F ρ N σ S H D hw R T => by
  obtain ⟨I, ⟨m0, i0⟩, turn⟩ := hw
  refine ⟨fun m σ H => ∃ S' ρ', Rep X.K F S' H σ ρ' ∧ Same S S' ∧ I m ρ', ⟨m0, S, ρ, R, Same.refl _, i0⟩, fun m σ H ⟨S', ρ', R', sm, hI⟩ => ?_⟩
  refine hc.sd F ρ' _ σ S' H _ (turn m ρ' hI) R' fun b ρ2 S2 H2 h2 R2 s2 => ?_
  cases b with
  | true =>
    rw [if_pos rfl] at h2 ⊢
    refine ⟨fun σ3 H3 => ∃ m', m' < m ∧ ∃ S' ρ', Rep X.K F S' H3 σ3 ρ' ∧ Same S S' ∧ I m' ρ', fun σ3 H3 h => h, ?_⟩
    exact hb.sd F ρ2 _ σ S2 H2 _ h2 R2 ⟨fun ρ4 σ4 S4 H4 ⟨m', hm, h4⟩ R4 s4 => ⟨m', hm, S4, ρ4, R4, sm.trans (s2.trans s4), h4⟩, fun d4 ρ4 v4 σ4 S4 H4 h4 R4 s4 d4' => T.rt d4 ρ4 v4 σ4 S4 H4 h4 R4 (sm.trans (s2.trans s4)) d4',
      fun ρ4 σ4 S4 H4 h4 R4 s4 => T.nx ρ4 σ4 S4 H4 h4 R4 (sm.trans (s2.trans s4)), fun ρ4 σ4 S4 H4 ⟨m', hm, h4⟩ R4 s4 => ⟨m', hm, S4, ρ4, R4, sm.trans (s2.trans s4), h4⟩, fun d4 ρ4 p4 v4 σ4 S4 H4 h4 R4 s4 B4 k4 => T.rn d4 ρ4 p4 v4 σ4 S4 H4 h4 R4 (sm.trans (s2.trans s4)) B4 k4⟩
  | false =>
    rw [if_neg Bool.false_ne_true] at h2 ⊢
    exact T.nx ρ2 σ S2 H2 h2 R2 (sm.trans s2)⟩
/-- x += e -/
theorem sv_augI (i : Nat) {x : Str} {pos' : Pos} (hN : X.N.Nodup) (he : EV X e te we) (hi : X.N[i]? = some x := by rfl) (hx : Loc X.env.scope x := by first | exact Or.inl rfl | exact Or.inr rfl) (hf : X.fn x = true ∨ X.env.scope.names.lookup x = some .local := by first | exact .inl rfl | exact .inr rfl | assumption) :
    SV X (.AugAssign (.Name x pos') .Add e pos) (tAug i te (ipI fun i j => i + j)) (wAugI i we) := ⟨ps_aug hN hi hx he.pe ip_add hf, fun F ρ N σ S H D hw R T => by
  unfold wAugI at hw
  obtain ⟨n, e1, hw⟩ : ∃ n, ρ[i]? = some (.val (.int n)) ∧ we ρ fun d ρ' => asInt d fun m => N.nx (ρ'.set i (.val (.int (n + m)))) := by
    unfold wLook at hw
    split at hw
    · obtain ⟨n, rfl, hw⟩ := hw.out
      exact ⟨n, by assumption, hw⟩
    · obtain ⟨n, z, _⟩ := hw.out
      cases z
    · exact hw.elim
  obtain ⟨v, g1, g2⟩ := R.at_ i _ e1
  cases g2
  refine ⟨_, g1, he.sd F ρ _ σ S H _ hw R fun d ρ1 v1 S1 H1 h1 R1 s1 d1 => ?_⟩
  obtain ⟨m, rfl, h1⟩ := h1.out
  cases d1
  exact ⟨n, m, rfl, rfl, T.nx _ _ S1 H1 h1 (R1.set i (.int _)) s1⟩⟩
end

/-! ### defs -/
/-- what a def promises over trees: n arguments, none of them changed -/
abbrev TSp := List PyData → (PyData → Prop) → Prop
/-- what a call leaves: the tables may have grown, all else stands -/
structure Left (H H' : Hp) : Prop where
  at_ : ∀ b o, ¬ Tb b → H b = some o → H' b = some o
  tok : CodeTabs H'
/-- what a call finds: the tables as they should be, and none of them in the still part -/
structure Found (S H : Hp) : Prop where
  tok : CodeTabs H
  off : ∀ b, Tb b → S b = none
def spV (K : PySem.W.Frag) (n : Nat) (T : TSp) : Sp := fun vs H Q _ => ∃ S ds P, Same S H ∧ Found S H ∧ DqAll K S vs ds ∧ ds.length = n ∧ T ds P ∧
  ∀ d v S' H', P d → Same S S' → Same S' H' → (∀ b, S b = none → S' b ≠ none → H b = none) → Left H H' → Dq K S' v d → Q v H'
/-- .. and the first argument is a list that it changes: n others -/
abbrev TSm := List PyData → List PyData → (PyData → List PyData → Prop) → Prop
def spM (K : PySem.W.Frag) (n : Nat) (T : TSm) : Sp := fun vs H Q _ => ∃ S a us vr cs ds P, vs = .ref a :: vr ∧ Same S H ∧ Found S H ∧ H a = some (.lst us) ∧ S a = none ∧ DqAll K S us cs ∧ DqAll K S vr ds ∧ ds.length = n ∧ T cs ds P ∧
  ∀ d cs' us' v S' H', P d cs' → Same S S' → Same S' H' → (∀ b, S b = none → S' b ≠ none → H b = none) → (∀ b o, b ≠ a → ¬ Tb b → H b = some o → H' b = some o) → CodeTabs H' → H' a = some (.lst us') → S' a = none → DqAll K S' us' cs' → Dq K S' v d → Q v H'
theorem spV_len {K : PySem.W.Frag} {n : Nat} {T : TSp} (vs : List V) (H : Hp) (Q : VK) (E : XK) (h : spV K n T vs H Q E) : vs.length = n := by
  obtain ⟨S, ds, P, _, _, hd, hl, _⟩ := h
  rw [hd.len, hl]
theorem spM_len {K : PySem.W.Frag} {n : Nat} {T : TSm} (vs : List V) (H : Hp) (Q : VK) (E : XK) (h : spM K n T vs H Q E) : vs.length = n + 1 := by
  obtain ⟨S, a, us, vr, cs, ds, P, rfl, _, _, _, _, _, hd, hl, _⟩ := h
  rw [List.length_cons, hd.len, hl]
theorem Left.none {H H' : Hp} (l : Left H H') {b : Addr} (n : H' b = none) : H b = none := by
  cases e : H b with
  | none => rfl
  | some o =>
    by_cases h : Tb b
    · obtain ⟨ps, z⟩ := l.tok.tbl h
      rw [n] at z
      cases z
    · rw [l.at_ b o h e] at n
      cases n
theorem Rep.found {K : PySem.W.Frag} {F : Fm} {S H : Hp} {σ : L2.St} {ρ : En} (R : Rep K F S H σ ρ) : Found S H := ⟨R.tok, fun b h => (R.mt b (R.tfree b h)).2⟩
/-- the slots at the entry -/
def startE (N : List Str) (ds : List PyData) : En := ds.map .val ++ List.replicate (N.length - ds.length) .un
def startM (N : List Str) (cs ds : List PyData) : En := .own true cs :: (ds.map .val ++ List.replicate (N.length - (ds.length + 1)) .un)
theorem at_start {vs : List V} {ds : List PyData} {K : PySem.W.Frag} {S : Hp} {k : Nat} (h : DqAll K S vs ds) {i : Nat} {d : PyData} (e : (ds.map Sl.val ++ List.replicate k Sl.un)[i]? = some (.val d)) : ∃ v, (vs.map some ++ List.replicate k none)[i]? = some (some v) ∧ Dq K S v d := by
  have hl := h.len
  by_cases hi : i < ds.length
  · rw [List.getElem?_append_left (by simpa using hi), List.getElem?_map] at e
    cases e2 : ds[i]? with
    | none => rw [e2] at e; cases e
    | some d' =>
      rw [e2] at e
      cases e
      obtain ⟨v, h1, h2⟩ := h.at e2
      exact ⟨v, by rw [List.getElem?_append_left (by simp; omega), List.getElem?_map, h1]; rfl, h2⟩
  · rw [List.getElem?_append_right (by simpa using hi), List.getElem?_replicate] at e
    split at e <;> cases e
theorem no_own {ds : List PyData} {k i : Nat} {m : Bool} {es : List PyData} : (ds.map Sl.val ++ List.replicate k Sl.un)[i]? ≠ some (.own m es) := fun e => by
  by_cases hi : i < ds.length
  · rw [List.getElem?_append_left (by simpa using hi), List.getElem?_map] at e
    cases e2 : ds[i]? with
    | none => rw [e2] at e; cases e
    | some d' => rw [e2] at e; cases e
  · rw [List.getElem?_append_right (by simpa using hi), List.getElem?_replicate] at e
    split at e <;> cases e
theorem no_dic {ds : List PyData} {k i : Nat} {m : List (Str × PyData)} : (ds.map Sl.val ++ List.replicate k Sl.un)[i]? ≠ some (.dic m) := fun e => by
  by_cases hi : i < ds.length
  · rw [List.getElem?_append_left (by simpa using hi), List.getElem?_map] at e
    cases e2 : ds[i]? with
    | none => rw [e2] at e; cases e
    | some d' => rw [e2] at e; cases e
  · rw [List.getElem?_append_right (by simpa using hi), List.getElem?_replicate] at e
    split at e <;> cases e
theorem rep_start {K : PySem.W.Frag} {S H : Hp} {vs : List V} {ds : List PyData} (N : List Str) (sm : Same S H) (fo : Found S H) (hd : DqAll K S vs ds) : Rep K ⟨H, Tb, S⟩ S H (L2.start N vs) (startE N ds) where
  sub := sm
  s0 := Same.refl S
  fresh := fun b h1 h2 => absurd h1 h2
  keep := fun b o e _ => e
  m0 := fun b h => by
    obtain ⟨ps, e⟩ := fo.tok.tbl h
    show H b ≠ none
    rw [e]
    simp
  mt := fun b h => by
    obtain ⟨ps, e⟩ := fo.tok.tbl h
    rw [e]
    exact ⟨by simp, fo.off b h⟩
  tok := fo.tok
  tfree := fun b h => h
  len := by
    have := hd.len
    unfold L2.start startE
    simp only [List.length_append, List.length_map, List.length_replicate]
    omega
  at_ := fun i d e => by
    unfold L2.start
    rw [hd.len]
    exact at_start hd e
  own := fun i m es e => absurd e no_own
  apart := fun i j m n es fs _ e _ => absurd e no_own
  dic := fun i m e => absurd e no_dic
theorem rep_startM {K : PySem.W.Frag} {S H : Hp} {a : Addr} {us vs : List V} {cs ds : List PyData} (N : List Str) (sm : Same S H) (fo : Found S H) (ea : H a = some (.lst us)) (es : S a = none) (hc : DqAll K S us cs) (hd : DqAll K S vs ds) :
    Rep K ⟨H, fun b => b = a ∨ Tb b, S⟩ S H (L2.start N (.ref a :: vs)) (startM N cs ds) where
  sub := sm
  s0 := Same.refl S
  fresh := fun b h1 h2 => absurd h1 h2
  keep := fun b o e _ => e
  m0 := fun b h => by
    show H b ≠ none
    rcases h with rfl | h
    · rw [ea]
      simp
    · obtain ⟨ps, e⟩ := fo.tok.tbl h
      rw [e]
      simp
  mt := fun b h => by
    rcases h with rfl | h
    · exact ⟨by rw [ea]; simp, es⟩
    · obtain ⟨ps, e⟩ := fo.tok.tbl h
      rw [e]
      exact ⟨by simp, fo.off b h⟩
  tok := fo.tok
  tfree := fun b h => .inr h
  len := by
    have := hd.len
    unfold L2.start startM
    simp only [List.length_append, List.length_map, List.length_replicate, List.length_cons]
    omega
  at_ := fun i d e => by
    unfold L2.start startM at *
    cases i with
    | zero => simp at e
    | succ i =>
      simp only [List.getElem?_cons_succ, List.map_cons, List.cons_append, List.length_cons] at e ⊢
      rw [hd.len]
      exact at_start hd e
  own := fun i m fs e => by
    unfold startM at e
    cases i with
    | zero =>
      simp at e
      obtain ⟨rfl, rfl⟩ := e
      exact ⟨a, us, rfl, ea, es, hc, by rw [if_pos rfl]; exact .inl rfl⟩
    | succ i =>
      simp only [List.getElem?_cons_succ] at e
      exact absurd e no_own
  apart := fun i j m n fs gs hne e e' => by
    unfold startM at e e'
    cases i with
    | zero =>
      cases j with
      | zero => exact absurd rfl hne
      | succ j =>
        simp only [List.getElem?_cons_succ] at e'
        exact absurd e' no_own
    | succ i =>
      simp only [List.getElem?_cons_succ] at e
      exact absurd e no_own
  dic := fun i m e => by
    unfold startM at e
    cases i with
    | zero => simp at e
    | succ i =>
      simp only [List.getElem?_cons_succ] at e
      exact absurd e no_dic
section
variable {P : Program} {w : World} {K : PySem.W.Frag} {mg : Str → Option Value} {base : Heap}
/-- THE RULE for a def that changes nothing: its body's reading over trees -/
theorem fn_pure {x qual : Str} {st : Stmt} {f : Addr} {fd : FuncData} {N ps : List Str} {k n : Nat} {T : TSp} (Fn : Fun K x qual st f fd) (Sc : FnScope N ps (defScope st)) (hn : ps.length = n)
    (hbody : ∀ (cdv : Value) (A : Around) (outer : List Env) (s : Shared) (H : Hp) (E : XK), Room k (A.deeper (envOfC qual (defScope st) s.heap.objs.size f cdv)) →
      ∃ t wt, SVs (cxOf (L2.CX P w) P w K mg base N qual (defScope st) f cdv A outer s H E).nox (defBody st) t wt ∧ ∀ ds P', ds.length = n → T ds P' → wt (startE N ds) { nx := fun _ => P' .none, rt := fun d _ => P' d }) :
    FnOk P w K mg base (L2.CX P w) (k + 1) f fd ps (spV K n T) := by
  refine Fn.okX Sc (fun vs H Q E h => (spV_len vs H Q E h).trans hn.symm) fun cdv A outer s H vs Q E hr hsp => ?_
  obtain ⟨t, wt, hb, hw⟩ := hbody cdv A outer s H E hr
  refine ⟨t, hb.ps.nox, ?_⟩
  obtain ⟨S, ds, P', sm, fo, hd, hl, hT, q⟩ := hsp
  have R := rep_start N sm fo hd
  refine hb.sd _ _ _ _ S H _ (hw ds P' hl hT) R ⟨fun ρ' σ' S' H' h R' s' => ?_, fun d ρ' v σ' S' H' h R' s' hd' => ?_, fun _ _ _ _ h _ _ => h.elim, fun _ _ _ _ h _ _ => h.elim, fun _ _ _ _ _ _ _ h _ _ _ _ => h.elim⟩
  · exact q .none .non S' H' h s' R'.sub (fun b h1 h2 => R'.fresh b h1 h2) ⟨fun b o nt e => R'.keep b o e nt, R'.tok⟩ .non
  · exact q d v S' H' h s' R'.sub (fun b h1 h2 => R'.fresh b h1 h2) ⟨fun b o nt e => R'.keep b o e nt, R'.tok⟩ hd'
/-- .. for a def that changes the list that is its first argument -/
theorem fn_mut {x qual : Str} {st : Stmt} {f : Addr} {fd : FuncData} {N ps : List Str} {k n : Nat} {T : TSm} (Fn : Fun K x qual st f fd) (Sc : FnScope N ps (defScope st)) (hn : ps.length = n + 1)
    (hbody : ∀ (cdv : Value) (A : Around) (outer : List Env) (s : Shared) (H : Hp) (E : XK), Room k (A.deeper (envOfC qual (defScope st) s.heap.objs.size f cdv)) →
      ∃ t wt, SVs (cxOf (L2.CX P w) P w K mg base N qual (defScope st) f cdv A outer s H E).nox (defBody st) t wt ∧
        ∀ cs ds P', ds.length = n → T cs ds P' → wt (startM N cs ds) { nx := fun ρ => ownAt ρ 0 fun m cs' => m = true ∧ P' .none cs', rt := fun d ρ => ownAt ρ 0 fun m cs' => m = true ∧ P' d cs' }) :
    FnOk P w K mg base (L2.CX P w) (k + 1) f fd ps (spM K n T) := by
  refine Fn.okX Sc (fun vs H Q E h => (spM_len vs H Q E h).trans hn.symm) fun cdv A outer s H vs Q E hr hsp => ?_
  obtain ⟨t, wt, hb, hw⟩ := hbody cdv A outer s H E hr
  refine ⟨t, hb.ps.nox, ?_⟩
  obtain ⟨S, a, us, vr, cs, ds, P', rfl, sm, fo, ea, es, hc, hd, hl, hT, q⟩ := hsp
  have R := rep_startM N sm fo ea es hc hd
  have fin : ∀ (d : PyData) (v : V) (ρ' : En) (σ' : L2.St) (S' H' : Hp), (ownAt ρ' 0 fun m cs' => m = true ∧ P' d cs') → Rep K ⟨H, fun b => b = a ∨ Tb b, S⟩ S' H' σ' ρ' → Same S S' → Dq K S' v d → Q v H' := fun d v ρ' σ' S' H' ho R' s' hd' => by
    obtain ⟨m, cs', ei, rfl, hp⟩ := ho.out
    obtain ⟨a', us', g1, g2, g3, g4, g5⟩ := R'.own 0 true cs' ei
    have g5' : a' = a := (show a' = a ∨ Tb a' from g5).resolve_right (R'.tok.nl g2)
    subst g5'
    exact q d cs' us' v S' H' hp s' R'.sub (fun b h1 h2 => R'.fresh b h1 h2) (fun b o hb nt e => R'.keep b o e fun z => z.elim hb nt) R'.tok g2 g3 g4 hd'
  exact hb.sd _ _ _ _ S H _ (hw cs ds P' hl hT) R ⟨fun ρ' σ' S' H' h R' s' => fin .none .non ρ' σ' S' H' h R' s' .non, fun d ρ' v σ' S' H' h R' s' hd' => fin d v ρ' σ' S' H' h R' s' hd', fun _ _ _ _ h _ _ => h.elim, fun _ _ _ _ h _ _ => h.elim, fun _ _ _ _ _ _ _ h _ _ _ _ => h.elim⟩
end
/-! ### calls of defs -/
def wCall (n : Nat) (T : TSp) (wa : WA) : W1 := fun ρ P => wa ρ fun ds ρ1 => ds.length = n ∧ T ds fun d => P d ρ1
def wCall0 (T : TSp) : W1 := fun ρ P => T [] fun d => P d ρ
def wCallM (i n : Nat) (Tm : TSm) (wa : WA) : W1 := fun ρ P => ownAt ρ i fun _ _ => wa ρ fun ds ρ1 => ds.length = n ∧ ownAt ρ1 i fun m cs => Tm cs ds fun d cs' => P d (ρ1.set i (.own m cs'))
def wCallN (n : Nat) (T : List PyData → (List PyData → Prop) → Prop) (wa : WA) : WA := fun ρ P => wa ρ fun ds ρ1 => ds.length = n ∧ T ds fun es => P es ρ1
section
variable {X : Cx} {k n : Nat} {f : Addr} {fd : FuncData} {ps : List Str} {T : TSp} {Tm : TSm} {x : Str} {p pos : Pos} {e : Expr} {es : List Expr} {t : TA} {wa : WA}
/-- a call of such a def, by any way of handing over the arguments -/
theorem snd_spV {K : PySem.W.Frag} {F : Fm} {S H : Hp} {σ : L2.St} {ρ : En} {P : PyData → En → Prop} {Q : VK} {vs : List V} {ds : List PyData} {E : XK} (R : Rep K F S H σ ρ) (hd : DqAll K S vs ds) (hn : ds.length = n) (hT : T ds fun d => P d ρ)
    (q : ∀ d ρ' v S' H', P d ρ' → Rep K F S' H' σ ρ' → Same S S' → Dq K S' v d → Q v H') : spV K n T vs H Q E := by
  refine ⟨S, ds, _, R.sub, R.found, hd, hn, hT, fun d v S' H' hp sm sub fresh keep hv => q d ρ v S' H' hp ?_ sm hv⟩
  refine ⟨sub, R.s0.trans sm, fun b h1 h2 => ?_, fun b o e hm => keep.at_ b o (fun z => hm (R.tfree b z)) (R.keep b o e hm), R.m0, fun b hm => ⟨fun z => (R.mt b hm).1 (keep.none z), ?_⟩, keep.tok, R.tfree, R.len, fun i d e => ?_, fun i m cs e => ?_, R.apart, fun i m e => (R.dic i m e).imp fun v h => ⟨h.1, dic_mono sm h.2⟩⟩
  · cases hS : S b with
    | none => exact R.h0 (fresh b hS h2)
    | some o => exact R.fresh b h1 (by rw [hS]; simp)
  · cases hS' : S' b with
    | none => rfl
    | some o => exact absurd (fresh b (R.mt b hm).2 (by rw [hS']; simp)) (R.mt b hm).1
  · obtain ⟨v, h1, h2⟩ := R.at_ i d e
    exact ⟨v, h1, dp_mono sm d v h2⟩
  · obtain ⟨a, us, h1, h2, h3, h4, h5⟩ := R.own i m cs e
    refine ⟨a, us, h1, keep.at_ a _ (R.tok.nl h2) h2, ?_, dpAll_mono sm cs us h4, h5⟩
    cases hS' : S' a with
    | none => rfl
    | some o =>
      have := fresh a h3 (by rw [hS']; simp)
      rw [h2] at this
      cases this
theorem ev_call (G : FnOk X.prog X.w X.K X.mg X.base (L2.CX X.prog X.w) k f fd ps (spV X.K n T)) (hr : Room k X.A) (hm : X.mg x = some (.ref f)) (hk : PySem.W.keepIn X.K (.ref f) = true) (hb : Binds X.K fd ps []) (ha : EA X (e :: es) t wa)
    (hg : Gl X x := by rfl) (hdb : (x == ("__debug__" : Str)) = false := by decide) (he : starEach (e :: es) X.env = (false, eval e X.env) :: starEach es X.env := by rfl) (hpl : (backTo pos (starEach es X.env)).any (·.1) = false := by rfl) :
    EV X (.Call (.Name x p) (e :: es) [] pos) (tCall (spV X.K n T) [] E0 t) (wCall n T wa) := ⟨pe_call G hr hg hm hk hb .nil passL ha.pa hdb he hpl, fun F ρ P σ S H Q hw R q =>
  ha.sd F ρ _ σ S H _ hw R fun ds ρ1 vs S1 H1 h1 R1 s1 d1 => by
    rw [List.append_nil]
    exact snd_spV R1 d1 h1.1 h1.2 fun d ρ' v S' H' hp R' sm hv => q d ρ' v S' H' hp R' (s1.trans sm) hv⟩
theorem ev_call0 (G : FnOk X.prog X.w X.K X.mg X.base (L2.CX X.prog X.w) k f fd ps (spV X.K 0 T)) (hr : Room k X.A) (hm : X.mg x = some (.ref f)) (hk : PySem.W.keepIn X.K (.ref f) = true) (hb : Binds X.K fd ps [])
    (hg : Gl X x := by rfl) (hdb : (x == ("__debug__" : Str)) = false := by decide) :
    EV X (.Call (.Name x p) [] [] pos) (tCall (spV X.K 0 T) [] E0 tNil) (wCall0 T) := ⟨pe_call0 G hr hg hm hk hb .nil passL hdb, fun F ρ P σ S H Q hw R q =>
  snd_spV (E := E0) (vs := []) R .nil rfl hw q⟩
end
end Tr
set_option Elab.async false
set_option linter.all false
set_option maxRecDepth 100000
set_option maxHeartbeats 2000000
/-! Tr4: defs that run where no repr is under way (the guards are told), their calls, the law's entry -/
namespace Tr
open PySem PySem.Spec PyProof.Rows L2
variable [Tabbed]

/-- a def keeps its promise wherever no guard stands on the stack -/
def FnG (P : Program) (w : World) (K : PySem.W.Frag) (mg : Str → Option Value) (base : Heap) (k : Nat) (f : Addr) (fd : FuncData) (ps : List Str) (sp : Sp) : Prop :=
  (∀ vs H Q E, sp vs H Q E → vs.length = ps.length) ∧
  ∀ (A : Around) (o : List Env) (s : Shared) (H : Hp) (g : Args) (us : List Value) (vs : List V) (Q : VK) (E : XK), A.guards = some [] → Room k A → Env0 P w K mg base A o s H → BindsTo s fd g (ps.zip us) →
    Vals vs us → sp vs H Q E → codeAny (model P w) A (.call (.ref f) g) (CR (L2.CX P w) o P w H s Q E) s
theorem FnG.of {P : Program} {w : World} {K : PySem.W.Frag} {mg : Str → Option Value} {base : Heap} {k : Nat} {f : Addr} {fd : FuncData} {ps : List Str} {sp : Sp} (G : FnOk P w K mg base (L2.CX P w) k f fd ps sp) : FnG P w K mg base k f fd ps sp :=
  ⟨G.len, fun A o s H g us vs Q E _ hr e hb hv hs => G.run A o s H g us vs Q E hr e hb hv hs⟩

section
variable {P : Program} {w : World} {K : PySem.W.Frag} {mg : Str → Option Value} {base : Heap}
theorem Fun.okG {x qual : Str} {st : Stmt} {f : Addr} {fd : FuncData} {N ps : List Str} {k : Nat} {sp : Sp} (Fn : Fun K x qual st f fd) (Sc : FnScope N ps (defScope st)) (hlen : ∀ vs H Q E, sp vs H Q E → vs.length = ps.length)
    (hbody : ∀ (c : Value) (A : Around) (o : List Env) (s : Shared) (H : Hp) (vs : List V) (Q : VK) (E : XK), A.guards = some [] → Room k (A.deeper (envOfC qual (defScope st) s.heap.objs.size f c)) → sp vs H Q E →
      ∃ t, PSs (cxOf (L2.CX P w) P w K mg base N qual (defScope st) f c A o s H E) (defBody st) t ∧ t { nx := fun _ H' => Q .non H', rt := Q } (L2.start N vs) H) : FnG P w K mg base (k + 1) f fd ps sp := by
  obtain ⟨oc, od, kV, doc, pm, an, c, ct, osl, hfd, lk, hcd⟩ := Fn.ex
  subst hfd
  refine ⟨hlen, fun A o s H g us vs Q E hgd hr e0 hb hv hs => ?_⟩
  have lim := e0.mod.nolimit.keeps fun b ob h => (e0.bs b ob h).1
  have kin : K.In s.heap := e0.mod.kin.keeps fun b ob h => (e0.bs b ob h).1
  refine codeAny_call_function hr.depth (kin _ _ lk) rfl Sc.co Sc.gen rfl (PySem.W.codeRec_of kin hcd) (hb _ _ _ _ ?_)
  have names : ∀ y ∈ ps.zip us, (defScope st).names.lookup y.1 = some .local ∨ ((defScope st).names.lookup y.1 = some .cell ∧ ((cellsFrom (s.heap.objs.size + 1) (defScope st).names []).lookup y.1).isSome = true) := by
    rintro ⟨y, u⟩ hy
    cases Sc.par y (List.of_mem_zip hy).1 with
    | inl q => exact Or.inl q
    | inr q => exact Or.inr ⟨q, PySem.W.cellsFrom_some _ _ _ (Or.inl q)⟩
  refine wpAny_newFunctionEnv_cells Sc.kind names fun env he s2 x2 => ?_
  subst he
  refine ⟨lim.keeps x2.toInCall.keep, ?_⟩
  obtain ⟨t, ht, hq⟩ := hbody c A o s H vs Q E hgd (hr.deeper _) hs
  refine codeAny_func (wpAny_mono (ht.run [] s2 (L2.start N vs) H _ (inv_start Sc hr.hd e0 (hlen _ _ _ _ hs) hv x2) hq) (fun fl s3 h3 => ?_) fun _ _ h3 => h3)
  match fl, h3 with
  | .next, ⟨σ', H', J, q⟩ => exact ⟨.non, H', J.os, J.bare, J.base, J.hok, rfl, q⟩
  | .ret u, ⟨v, σ', H', J, rv, q⟩ => exact ⟨v, H', J.os, J.bare, J.base, J.hok, rv, q⟩
  | .brk, ⟨_, _, _, q⟩ => exact False.elim q
  | .cont, ⟨_, _, _, q⟩ => exact False.elim q
/-- a def that changes nothing -/
theorem fn_pureG {x qual : Str} {st : Stmt} {f : Addr} {fd : FuncData} {N ps : List Str} {k n : Nat} {T : TSp} (Fn : Fun K x qual st f fd) (Sc : FnScope N ps (defScope st)) (hn : ps.length = n)
    (hbody : ∀ (cdv : Value) (A : Around) (outer : List Env) (s : Shared) (H : Hp) (E : XK), A.guards = some [] → Room k (A.deeper (envOfC qual (defScope st) s.heap.objs.size f cdv)) →
      ∃ t wt, SVs (cxOf (L2.CX P w) P w K mg base N qual (defScope st) f cdv A outer s H E).nox (defBody st) t wt ∧ ∀ ds P', ds.length = n → T ds P' → wt (startE N ds) { nx := fun _ => P' .none, rt := fun d _ => P' d }) :
    FnG P w K mg base (k + 1) f fd ps (spV K n T) := by
  refine Fun.okG Fn Sc (fun vs H Q E h => (spV_len vs H Q E h).trans hn.symm) fun cdv A outer s H vs Q E hgd hr hsp => ?_
  obtain ⟨t, wt, hb, hw⟩ := hbody cdv A outer s H E hgd hr
  refine ⟨t, hb.ps.nox, ?_⟩
  obtain ⟨S, ds, P', sm, fo, hd, hl, hT, q⟩ := hsp
  have R := rep_start N sm fo hd
  refine hb.sd _ _ _ _ S H _ (hw ds P' hl hT) R ⟨fun ρ' σ' S' H' h R' s' => ?_, fun d ρ' v σ' S' H' h R' s' hd' => ?_, fun _ _ _ _ h _ _ => h.elim, fun _ _ _ _ h _ _ => h.elim, fun _ _ _ _ _ _ _ h _ _ _ _ => h.elim⟩
  · exact q .none .non S' H' h s' R'.sub (fun b h1 h2 => R'.fresh b h1 h2) ⟨fun b o nt e => R'.keep b o e nt, R'.tok⟩ .non
  · exact q d v S' H' h s' R'.sub (fun b h1 h2 => R'.fresh b h1 h2) ⟨fun b o nt e => R'.keep b o e nt, R'.tok⟩ hd'
theorem fn_mutG {x qual : Str} {st : Stmt} {f : Addr} {fd : FuncData} {N ps : List Str} {k n : Nat} {T : TSm} (Fn : Fun K x qual st f fd) (Sc : FnScope N ps (defScope st)) (hn : ps.length = n + 1)
    (hbody : ∀ (cdv : Value) (A : Around) (outer : List Env) (s : Shared) (H : Hp) (E : XK), A.guards = some [] → Room k (A.deeper (envOfC qual (defScope st) s.heap.objs.size f cdv)) →
      ∃ t wt, SVs (cxOf (L2.CX P w) P w K mg base N qual (defScope st) f cdv A outer s H E).nox (defBody st) t wt ∧
        ∀ cs ds P', ds.length = n → T cs ds P' → wt (startM N cs ds) { nx := fun ρ => ownAt ρ 0 fun m cs' => m = true ∧ P' .none cs', rt := fun d ρ => ownAt ρ 0 fun m cs' => m = true ∧ P' d cs' }) :
    FnG P w K mg base (k + 1) f fd ps (spM K n T) := by
  refine Fun.okG Fn Sc (fun vs H Q E h => (spM_len vs H Q E h).trans hn.symm) fun cdv A outer s H vs Q E hgd hr hsp => ?_
  obtain ⟨t, wt, hb, hw⟩ := hbody cdv A outer s H E hgd hr
  refine ⟨t, hb.ps.nox, ?_⟩
  obtain ⟨S, a, us, vr, cs, ds, P', rfl, sm, fo, ea, es, hc, hd, hl, hT, q⟩ := hsp
  have R := rep_startM N sm fo ea es hc hd
  have fin : ∀ (d : PyData) (v : V) (ρ' : En) (σ' : L2.St) (S' H' : Hp), (ownAt ρ' 0 fun m cs' => m = true ∧ P' d cs') → Rep K ⟨H, fun b => b = a ∨ Tb b, S⟩ S' H' σ' ρ' → Same S S' → Dq K S' v d → Q v H' := fun d v ρ' σ' S' H' ho R' s' hd' => by
    obtain ⟨m, cs', ei, rfl, hp⟩ := ho.out
    obtain ⟨a', us', g1, g2, g3, g4, g5⟩ := R'.own 0 true cs' ei
    have g5' : a' = a := (show a' = a ∨ Tb a' from g5).resolve_right (R'.tok.nl g2)
    subst g5'
    exact q d cs' us' v S' H' hp s' R'.sub (fun b h1 h2 => R'.fresh b h1 h2) (fun b o hb nt e => R'.keep b o e fun z => z.elim hb nt) R'.tok g2 g3 g4 hd'
  exact hb.sd _ _ _ _ S H _ (hw cs ds P' hl hT) R ⟨fun ρ' σ' S' H' h R' s' => fin .none .non ρ' σ' S' H' h R' s' .non, fun d ρ' v σ' S' H' h R' s' hd' => fin d v ρ' σ' S' H' h R' s' hd', fun _ _ _ _ h _ _ => h.elim, fun _ _ _ _ h _ _ => h.elim, fun _ _ _ _ _ _ _ h _ _ _ _ => h.elim⟩
end

section
variable {X : Cx} {k n : Nat} {f : Addr} {fd : FuncData} {ps : List Str} {T : TSp} {Tm : TSm} {x : Str} {p pos : Pos} {e : Expr} {es : List Expr} {t : TA} {wa : WA} {sp : Sp}
theorem FnG.call {pins : List (Addr × Obj)} {σ : L2.St} {H : Hp} {s : Shared} {Q : VK} {us : List Value} {vs : List V} (G : FnG X.prog X.w X.K X.mg X.base k f fd ps sp) (hgd : X.A.guards = some []) (hr : Room k X.A) (hb : Binds X.K fd ps []) (I : L2.Inv X pins σ H s) (r : Vals vs us) (h : sp vs H Q E0) :
    wpAny (model X.prog X.w) X.A (call (.ref f) us) (EP X pins σ Q) X.xe s := by
  have hl : us.length = ps.length := r.length.symm.trans (G.1 _ _ _ _ h)
  have bt := hb s us I.kIn (by rw [List.append_nil]; exact hl)
  rw [List.append_nil] at bt
  refine wpAny_call (codeAny_mono (G.2 X.A X.stack s H ⟨us, []⟩ us vs Q E0 hgd hr I.env0 bt r h) fun res s2 h2 => ?_)
  match res, h2 with
  | .error er, h2 => exact passL pins σ H s er s2 I h2
  | .ok (.ret u), h2 => exact I.after h2
  | .ok .next, h2 => exact False.elim h2
  | .ok .brk, h2 => exact False.elim h2
  | .ok .cont, h2 => exact False.elim h2
theorem pe_callG (G : FnG X.prog X.w X.K X.mg X.base k f fd ps sp) (hgd : X.A.guards = some []) (hr : Room k X.A) (hg : Gl X x) (hm : X.mg x = some (.ref f)) (hk : PySem.W.keepIn X.K (.ref f) = true) (hb : Binds X.K fd ps []) (ha : PA X (e :: es) t)
    (hdb : (x == ("__debug__" : Str)) = false) (he : starEach (e :: es) X.env = (false, eval e X.env) :: starEach es X.env) (hpl : (backTo pos (starEach es X.env)).any (·.1) = false) : PE X (.Call (.Name x p) (e :: es) [] pos) (tCall sp [] E0 t) :=
  ⟨fun pins s σ H Q I h => wpAny_Call_Name_kw (ld_glob I hg hm (PySem.W.callWith_K (h₀ := X.base) I.ok.mod.kin hk (thn (ha.run pos pins s σ H _ I h) fun us s1 z => by
    obtain ⟨vs, H1, I1, r, q⟩ := z
    rw [List.append_nil] at q
    exact ⟨I1.kIn, G.call hgd hr hb I1 r q⟩) he hpl) hdb)⟩
theorem pe_callG0 (G : FnG X.prog X.w X.K X.mg X.base k f fd ps sp) (hgd : X.A.guards = some []) (hr : Room k X.A) (hg : Gl X x) (hm : X.mg x = some (.ref f)) (hk : PySem.W.keepIn X.K (.ref f) = true) (hb : Binds X.K fd ps [])
    (hdb : (x == ("__debug__" : Str)) = false) : PE X (.Call (.Name x p) [] [] pos) (tCall sp [] E0 tNil) :=
  ⟨fun pins s σ H Q I h => wpAny_Call_Name_kw (ld_glob I hg hm (PySem.W.callWith_K0 I.kIn hk (G.call (us := []) hgd hr hb I .nil h)) hdb)⟩
theorem ev_callG (G : FnG X.prog X.w X.K X.mg X.base k f fd ps (spV X.K n T)) (hgd : X.A.guards = some []) (hr : Room k X.A) (hm : X.mg x = some (.ref f)) (hk : PySem.W.keepIn X.K (.ref f) = true) (hb : Binds X.K fd ps []) (ha : EA X (e :: es) t wa)
    (hg : Gl X x := by rfl) (hdb : (x == ("__debug__" : Str)) = false := by decide) (he : starEach (e :: es) X.env = (false, eval e X.env) :: starEach es X.env := by rfl) (hpl : (backTo pos (starEach es X.env)).any (·.1) = false := by rfl) :
    EV X (.Call (.Name x p) (e :: es) [] pos) (tCall (spV X.K n T) [] E0 t) (wCall n T wa) := ⟨pe_callG G hgd hr hg hm hk hb ha.pa hdb he hpl, fun F ρ P σ S H Q hw R q =>
  ha.sd F ρ _ σ S H _ hw R fun ds ρ1 vs S1 H1 h1 R1 s1 d1 => by
    rw [List.append_nil]
    exact snd_spV R1 d1 h1.1 h1.2 fun d ρ' v S' H' hp R' sm hv => q d ρ' v S' H' hp R' (s1.trans sm) hv⟩
theorem ev_callG0 (G : FnG X.prog X.w X.K X.mg X.base k f fd ps (spV X.K 0 T)) (hgd : X.A.guards = some []) (hr : Room k X.A) (hm : X.mg x = some (.ref f)) (hk : PySem.W.keepIn X.K (.ref f) = true) (hb : Binds X.K fd ps [])
    (hg : Gl X x := by rfl) (hdb : (x == ("__debug__" : Str)) = false := by decide) :
    EV X (.Call (.Name x p) [] [] pos) (tCall (spV X.K 0 T) [] E0 tNil) (wCall0 T) := ⟨pe_callG0 G hgd hr hg hm hk hb hdb, fun F ρ P σ S H Q hw R q =>
  snd_spV (E := E0) (vs := []) R .nil rfl hw q⟩
end
/-- the sound half of a call whose first argument is a slot's own list -/
theorem snd_callM {K : PySem.W.Frag} (i n : Nat) {Tm : TSm} {t : TA} {wa : WA} (ha : SndA K t wa) : Snd K (tCall (spM K n Tm) [] E0 (tCons (tVar i) t)) (wCallM i n Tm wa) := fun F ρ P σ S H Q hw R q => by
  obtain ⟨m0, c0, e0, hw⟩ := hw.out
  obtain ⟨a, us0, z1, _⟩ := R.own i m0 c0 e0
  refine ⟨.ref a, z1, ha F ρ _ σ S H _ hw R fun ds ρ1 vs S1 H1 h1 R1 s1 d1 => ?_⟩
  obtain ⟨hn, h1⟩ := h1
  obtain ⟨m, cs, ei, hT⟩ := h1.out
  obtain ⟨a', us, h1, h2, h3, h4, h5⟩ := R1.own i m cs ei
  rw [z1] at h1
  cases h1
  rw [List.append_nil]
  refine ⟨S1, a, us, vs, cs, ds, _, rfl, R1.sub, R1.found, h2, h3, h4, d1, hn, hT, fun d cs' us' v S' H' hp sm sub fresh keep tk ga gs gd hv => ?_⟩
  have key : Rep K F S' H' σ (ρ1.set i (.own m cs')) := by
    have oth : ∀ (j : Nat) (n' : Bool) (fs : List PyData), j ≠ i → ρ1[j]? = some (.own n' fs) → σ[j]? ≠ some (some (.ref a)) := fun j n' fs hj q z => R1.apart j i n' m fs cs hj q ei (by rw [z, z1])
    have keepH : ∀ b, H1 b ≠ none → H' b ≠ none := fun b hb => by
      by_cases hba : b = a
      · rw [hba, ga]
        simp
      · cases hH : H1 b with
        | none => exact absurd hH hb
        | some o =>
          by_cases ht : Tb b
          · obtain ⟨ps, z⟩ := tk.tbl ht
            rw [z]
            simp
          · rw [keep b o hba ht hH]
            simp
    refine ⟨sub, R1.s0.trans sm, fun b h1 h2 => ?_, fun b o e hm' => ?_, R1.m0, fun b hm' => ⟨keepH b (R1.mt b hm').1, ?_⟩, tk, R1.tfree, by rw [List.length_set, R1.len], fun j d e => ?_, fun j n' fs e => ?_, fun j l n1 n2 fs gs' hne e e' => ?_, fun j w e => ?_⟩
    · cases hS : S1 b with
      | none => exact R1.h0 (fresh b hS h2)
      | some o => exact R1.fresh b h1 (by rw [hS]; simp)
    · by_cases hba : b = a
      · subst hba
        cases m with
        | true => exact absurd h5 hm'
        | false =>
          rw [show F.H0 b = none from h5] at e
          cases e
      · exact keep b o hba (fun z => hm' (R1.tfree b z)) (R1.keep b o e hm')
    · cases hS' : S' b with
      | none => rfl
      | some o => exact absurd (fresh b (R1.mt b hm').2 (by rw [hS']; simp)) (R1.mt b hm').1
    · rcases get_set e with ⟨rfl, e, _⟩ | ⟨hj, e⟩
      · cases e
      · obtain ⟨v', g1, g2⟩ := R1.at_ j d e
        exact ⟨v', g1, dp_mono sm d v' g2⟩
    · rcases get_set e with ⟨rfl, e, _⟩ | ⟨hj, e⟩
      · cases e
        exact ⟨a, us', z1, ga, gs, gd, h5⟩
      · obtain ⟨b, ws, g1, g2, g3, g4, g5⟩ := R1.own j n' fs e
        have hba : b ≠ a := fun z => oth j n' fs hj e (by rw [g1, z])
        refine ⟨b, ws, g1, keep b _ hba (R1.tok.nl g2) g2, ?_, dpAll_mono sm fs ws g4, g5⟩
        cases hS' : S' b with
        | none => rfl
        | some o =>
          have := fresh b g3 (by rw [hS']; simp)
          rw [g2] at this
          cases this
    · have back : ∀ {l : Nat} {n' : Bool} {fs : List PyData}, (ρ1.set i (.own m cs'))[l]? = some (.own n' fs) → ∃ n'' fs', ρ1[l]? = some (.own n'' fs') := fun {l n' fs} z => by
        rcases get_set z with ⟨rfl, _, _⟩ | ⟨_, z⟩
        · exact ⟨m, cs, ei⟩
        · exact ⟨n', fs, z⟩
      obtain ⟨q1, f1, y1⟩ := back e
      obtain ⟨q2, f2, y2⟩ := back e'
      exact R1.apart j l q1 q2 f1 f2 hne y1 y2
    · rcases get_set e with ⟨rfl, e, _⟩ | ⟨hj, e⟩
      · cases e
      · obtain ⟨v', g1, g2⟩ := R1.dic j w e
        exact ⟨v', g1, dic_mono sm g2⟩
  exact q d _ v S' H' hp key (s1.trans sm) hv
section
variable {X : Cx} {k n : Nat} {f : Addr} {fd : FuncData} {ps : List Str} {Tm : TSm} {x y : Str} {p pos py : Pos} {es : List Expr} {t : TA} {wa : WA}
theorem ev_callM (i : Nat) (G : FnOk X.prog X.w X.K X.mg X.base (L2.CX X.prog X.w) k f fd ps (spM X.K n Tm)) (hr : Room k X.A) (hm : X.mg x = some (.ref f)) (hk : PySem.W.keepIn X.K (.ref f) = true) (hb : Binds X.K fd ps []) (ha : EA X es t wa)
    (hN : X.N[i]? = some y := by rfl) (hv : Vis X.env.scope y := by first | exact Or.inl rfl | exact Or.inr (Or.inl rfl) | exact Or.inr (Or.inr rfl)) (hd : (y == ("__debug__" : Str)) = false := by decide) (hcd : (y == ("__classdict__" : Str)) = false := by decide)
    (hg : Gl X x := by rfl) (hdb : (x == ("__debug__" : Str)) = false := by decide) (he : starEach (.Name y py :: es) X.env = (false, eval (.Name y py) X.env) :: starEach es X.env := by rfl) (hpl : (backTo pos (starEach es X.env)).any (·.1) = false := by rfl) :
    EV X (.Call (.Name x p) (.Name y py :: es) [] pos) (tCall (spM X.K n Tm) [] E0 (tCons (tVar i) t)) (wCallM i n Tm wa) :=
  ⟨pe_call G hr hg hm hk hb .nil passL (pa_cons (pe_var hN hv hd hcd) ha.pa he) hdb he hpl, snd_callM i n ha.sd⟩
theorem ev_callMG (i : Nat) (G : FnG X.prog X.w X.K X.mg X.base k f fd ps (spM X.K n Tm)) (hgd : X.A.guards = some []) (hr : Room k X.A) (hm : X.mg x = some (.ref f)) (hk : PySem.W.keepIn X.K (.ref f) = true) (hb : Binds X.K fd ps []) (ha : EA X es t wa)
    (hN : X.N[i]? = some y := by rfl) (hv : Vis X.env.scope y := by first | exact Or.inl rfl | exact Or.inr (Or.inl rfl) | exact Or.inr (Or.inr rfl)) (hd : (y == ("__debug__" : Str)) = false := by decide) (hcd : (y == ("__classdict__" : Str)) = false := by decide)
    (hg : Gl X x := by rfl) (hdb : (x == ("__debug__" : Str)) = false := by decide) (he : starEach (.Name y py :: es) X.env = (false, eval (.Name y py) X.env) :: starEach es X.env := by rfl) (hpl : (backTo pos (starEach es X.env)).any (·.1) = false := by rfl) :
    EV X (.Call (.Name x p) (.Name y py :: es) [] pos) (tCall (spM X.K n Tm) [] E0 (tCons (tVar i) t)) (wCallM i n Tm wa) :=
  ⟨pe_callG G hgd hr hg hm hk hb (pa_cons (pe_var hN hv hd hcd) ha.pa he) hdb he hpl, snd_callM i n ha.sd⟩
end

/-! ### a def that hands back a new list -/
abbrev TSn := List PyData → (List PyData → Prop) → Prop
def spN (K : PySem.W.Frag) (n : Nat) (T : TSn) : Sp := fun vs H Q _ => ∃ S ds P, Same S H ∧ Found S H ∧ DqAll K S vs ds ∧ ds.length = n ∧ T ds P ∧
  ∀ es p us S' H', P es → Same S S' → Same S' H' → (∀ b, S b = none → S' b ≠ none → H b = none) → Left H H' → H p = none → S' p = none → H' p = some (.lst us) → DqAll K S' us es → Q (.ref p) H'
theorem spN_len {K : PySem.W.Frag} {n : Nat} {T : TSn} (vs : List V) (H : Hp) (Q : VK) (E : XK) (h : spN K n T vs H Q E) : vs.length = n := by
  obtain ⟨S, ds, P, _, _, hd, hl, _⟩ := h
  rw [hd.len, hl]
section
variable {P : Program} {w : World} {K : PySem.W.Frag} {mg : Str → Option Value} {base : Heap}
theorem fn_new {x qual : Str} {st : Stmt} {f : Addr} {fd : FuncData} {N ps : List Str} {k n : Nat} {T : TSn} (Fn : Fun K x qual st f fd) (Sc : FnScope N ps (defScope st)) (hn : ps.length = n)
    (hbody : ∀ (cdv : Value) (A : Around) (outer : List Env) (s : Shared) (H : Hp) (E : XK), Room k (A.deeper (envOfC qual (defScope st) s.heap.objs.size f cdv)) →
      ∃ t wt, SVs (cxOf (L2.CX P w) P w K mg base N qual (defScope st) f cdv A outer s H E).nox (defBody st) t wt ∧ ∀ ds P', ds.length = n → T ds P' → wt (startE N ds) { nx := fun _ => False, rt := fun _ _ => False, rn := fun es _ => P' es }) :
    FnOk P w K mg base (L2.CX P w) (k + 1) f fd ps (spN K n T) := by
  refine Fn.okX Sc (fun vs H Q E h => (spN_len vs H Q E h).trans hn.symm) fun cdv A outer s H vs Q E hr hsp => ?_
  obtain ⟨t, wt, hb, hw⟩ := hbody cdv A outer s H E hr
  refine ⟨t, hb.ps.nox, ?_⟩
  obtain ⟨S, ds, P', sm, fo, hd, hl, hT, q⟩ := hsp
  have R := rep_start N sm fo hd
  refine hb.sd _ _ _ _ S H _ (hw ds P' hl hT) R ⟨fun _ _ _ _ h _ _ => h.elim, fun _ _ _ _ _ _ h _ _ _ => h.elim, fun _ _ _ _ h _ _ => h.elim, fun _ _ _ _ h _ _ => h.elim, fun es ρ' p us σ' S' H' h R' s' B' hd' => ?_⟩
  exact q es p us S' H' h s' R'.sub (fun b h1 h2 => R'.fresh b h1 h2) ⟨fun b o nt e => R'.keep b o e nt, R'.tok⟩ B'.h0 B'.s B'.at_ hd'
end
section
variable {X : Cx} {k n : Nat} {f : Addr} {fd : FuncData} {ps : List Str} {T : TSn} {x : Str} {p pos : Pos} {e : Expr} {es : List Expr} {t : TA} {wa : WA}
theorem en_call (G : FnOk X.prog X.w X.K X.mg X.base (L2.CX X.prog X.w) k f fd ps (spN X.K n T)) (hr : Room k X.A) (hm : X.mg x = some (.ref f)) (hk : PySem.W.keepIn X.K (.ref f) = true) (hb : Binds X.K fd ps []) (ha : EA X (e :: es) t wa)
    (hg : Gl X x := by rfl) (hdb : (x == ("__debug__" : Str)) = false := by decide) (he : starEach (e :: es) X.env = (false, eval e X.env) :: starEach es X.env := by rfl) (hpl : (backTo pos (starEach es X.env)).any (·.1) = false := by rfl) :
    EN X (.Call (.Name x p) (e :: es) [] pos) (tCall (spN X.K n T) [] E0 t) (wCallN n T wa) := ⟨pe_call G hr hg hm hk hb .nil passL ha.pa hdb he hpl, fun F ρ P σ S H Q hw R q =>
  ha.sd F ρ _ σ S H _ hw R fun ds ρ1 vs S1 H1 h1 R1 s1 d1 => by
    rw [List.append_nil]
    refine ⟨S1, ds, _, R1.sub, R1.found, d1, h1.1, h1.2, fun fs p us S' H' hp sm sub fresh keep n ns hat hd => ?_⟩
    have R2 : Rep X.K F S' H' σ ρ1 := by
      refine ⟨sub, R1.s0.trans sm, fun b h1 h2 => ?_, fun b o e hm => keep.at_ b o (fun z => hm (R1.tfree b z)) (R1.keep b o e hm), R1.m0, fun b hm => ⟨fun z => (R1.mt b hm).1 (keep.none z), ?_⟩, keep.tok, R1.tfree, R1.len, fun i d e => ?_, fun i m cs e => ?_, R1.apart, fun i m e => (R1.dic i m e).imp fun v h => ⟨h.1, dic_mono sm h.2⟩⟩
      · cases hS : S1 b with
        | none => exact R1.h0 (fresh b hS h2)
        | some o => exact R1.fresh b h1 (by rw [hS]; simp)
      · cases hS' : S' b with
        | none => rfl
        | some o => exact absurd (fresh b (R1.mt b hm).2 (by rw [hS']; simp)) (R1.mt b hm).1
      · obtain ⟨v, h1, h2⟩ := R1.at_ i d e
        exact ⟨v, h1, dp_mono sm d v h2⟩
      · obtain ⟨a, us, h1, h2, h3, h4, h5⟩ := R1.own i m cs e
        refine ⟨a, us, h1, keep.at_ a _ (R1.tok.nl h2) h2, ?_, dpAll_mono sm cs us h4, h5⟩
        cases hS' : S' a with
        | none => rfl
        | some o =>
          have := fresh a h3 (by rw [hS']; simp)
          rw [h2] at this
          cases this
    refine q fs ρ1 p us S' H' hp R2 (s1.trans sm) ⟨hat, ns, R1.h0 n, fun i m cs e z => ?_⟩ hd
    obtain ⟨a, ws, g1, g2, _⟩ := R1.own i m cs e
    rw [g1] at z
    cases z
    rw [n] at g2
    cases g2⟩
end

end Tr
set_option Elab.async false
set_option linter.all false
set_option maxRecDepth 100000
set_option maxHeartbeats 2000000
/-! Tr5: items, slices, built-ins, methods of lists, comprehensions -/
namespace Tr
open PySem PySem.Spec PyProof.Rows L2
variable [Tabbed]

theorem ixN_at {K : PySem.W.Frag} {S : Hp} {vs : List V} {ds : List PyData} {i : Int} {d : PyData} (h : DqAll K S vs ds) (e : atI ds i = some d) : ∃ v, atI vs i = some v ∧ Dq K S v d := by
  unfold atI at e ⊢
  rw [h.len]
  cases hj : ixN ds.length i with
  | none => rw [hj] at e; cases e
  | some j =>
    rw [hj] at e
    obtain ⟨v, h1, h2⟩ := h.at (i := j) e
    exact ⟨v, h1, h2⟩
theorem at0 {α : Type} {x : α} {xs : List α} : atI (x :: xs) 0 = some x := atI_nat (j := 0) rfl
theorem at1 {α : Type} {x y : α} {xs : List α} : atI (x :: y :: xs) 1 = some y := atI_nat (j := 1) rfl
theorem at2 {α : Type} {x y z : α} {xs : List α} : atI (x :: y :: z :: xs) 2 = some z := atI_nat (j := 2) rfl
theorem at3 {α : Type} {x y z u : α} {xs : List α} : atI (x :: y :: z :: u :: xs) 3 = some u := atI_nat (j := 3) rfl
/-- e[i] -/
def gIx : PyData → PyData → (PyData → Prop) → Prop := fun x y P => match x, y with
  | .list ds, .int i => someOf (atI ds i) P
  | .tuple ds, .int i => someOf (atI ds i) P
  | .str s, .int i => s.length ≤ sizeLine ∧ someOf (atI s.cps.toList i) fun c => P (.str ⟨#[c]⟩)
  | _, _ => False
theorem lift_ix {K : PySem.W.Frag} : Lift2 K (rIx K) gIx := fun S H x y d e P Q sm dx dy hg q => by
  unfold gIx at hg
  split at hg
  · obtain ⟨z, h1, h2⟩ := hg.out
    cases dx with
    | lst sq ha =>
      cases dy
      obtain ⟨v, g1, g2⟩ := ixN_at ha h1
      exact .inl ⟨_, _, _, v, rfl, rfl, same_sqL sm sq, g1, q z v h2 g2⟩
  · obtain ⟨z, h1, h2⟩ := hg.out
    cases dx with
    | tup sq ha =>
      cases dy
      obtain ⟨v, g1, g2⟩ := ixN_at ha h1
      exact .inr (.inl ⟨_, _, _, v, rfl, rfl, same_sqT sm sq, g1, q z v h2 g2⟩)
  · obtain ⟨hz, hg⟩ := hg
    obtain ⟨c, h1, h2⟩ := hg.out
    cases dx
    cases dy
    exact .inr (.inr ⟨_, _, c, rfl, rfl, hz, h1, q _ _ h2 (.str _)⟩)
  · exact hg.elim
def wIxO (i : Nat) (wb : W1) : W1 := fun ρ P => ownAt ρ i fun _ _ => wb ρ fun y ρ1 => ownAt ρ1 i fun _ ds => asInt y fun j => someOf (atI ds j) fun z => P z ρ1
def wFn (g : List PyData → (PyData → Prop) → Prop) (w : WA) : W1 := fun ρ P => w ρ fun ds ρ1 => g ds fun z => P z ρ1
def wFn1 (g : PyData → (PyData → Prop) → Prop) (w : W1) : W1 := fun ρ P => w ρ fun d ρ1 => g d fun z => P z ρ1
def wFnN (g : List PyData → (List PyData → Prop) → Prop) (w : WA) : WA := fun ρ P => w ρ fun ds ρ1 => g ds fun z => P z ρ1
def gTup1 : PyData → (List PyData → Prop) → Prop := fun d P => match d with
  | .list es => P es
  | .tuple es => P es
  | _ => False
def wTuple1 (w : W1) : W1 := fun ρ P => w ρ fun d ρ1 => gTup1 d fun z => P (.tuple z) ρ1
def wAppend (i : Nat) (we : W1) : WS := fun ρ N => ownAt ρ i fun _ _ => we ρ fun d ρ1 => ownAt ρ1 i fun m ds => ds.length < sizeLine ∧ N.nx (ρ1.set i (.own m (ds ++ [d])))
def wPopAt (i : Nat) (we : W1) : W1 := fun ρ P => ownAt ρ i fun _ _ => we ρ fun d ρ1 => ownAt ρ1 i fun m ds => asNat d fun k => k < 2 ^ 62 ∧ someOf ds[k]? fun z => P z (ρ1.set i (.own m (ds.eraseIdx k)))
def wSetO (i : Nat) (we w1 : W1) : WS := fun ρ N => we ρ fun d ρ1 => ownAt ρ1 i fun _ _ => w1 ρ1 fun y ρ2 => ownAt ρ2 i fun m ds => asNat y fun k => k < ds.length ∧ N.nx (ρ2.set i (.own m (ds.set k d)))
section
variable {X : Cx} {a b e : Expr} {ta tb te : TE} {wa wb we : W1} {pos : Pos}
theorem ev_ix (ha : EV X a ta wa) (hb : EV X b tb wb) (hs : PlainIx b := by intro _ _; rfl) : EV X (.Subscript a b pos) (tOp (rIx X.K) ta tb) (wOp gIx wa wb) := ⟨pe_ix ix_seq ha.pe hb.pe hs, snd_op lift_ix ha.sd hb.sd⟩
/-- x[i] of a list that the slot holds alone -/
theorem ev_ixO (i : Nat) {x : Str} {px : Pos} (hb : EV X b tb wb) (hs : PlainIx b := by intro _ _; rfl) (hN : X.N[i]? = some x := by rfl) (hv : Vis X.env.scope x := by first | exact Or.inl rfl | exact Or.inr (Or.inl rfl) | exact Or.inr (Or.inr rfl)) (hd : (x == ("__debug__" : Str)) = false := by decide)
    (hcd : (x == ("__classdict__" : Str)) = false := by decide) :
    EV X (.Subscript (.Name x px) b pos) (tOp (rIx X.K) (tVar i) tb) (wIxO i wb) := ⟨pe_ix ix_seq (pe_var hN hv hd hcd) hb.pe hs, fun F ρ P σ S H Q hw R q => by
  obtain ⟨m0, d0, e0, hw⟩ := hw.out
  obtain ⟨a0, v0, z0, _⟩ := R.own i m0 d0 e0
  refine ⟨.ref a0, z0, hb.sd F ρ _ σ S H _ hw R fun y ρ1 vy S1 H1 hp R1 s1 d1 => ?_⟩
  obtain ⟨m, ds, e1, hp⟩ := hp.out
  obtain ⟨j, rfl, hp1⟩ := hp.out
  obtain ⟨z, hz, hp2⟩ := hp1.out
  cases d1
  obtain ⟨a1, vs, z1, z2, z3, z4, z5⟩ := R1.own i m ds e1
  rw [z0] at z1
  cases z1
  obtain ⟨v, g1, g2⟩ := ixN_at z4 hz
  exact .inl ⟨_, _, _, v, rfl, rfl, SqL.of z2, g1, q z ρ1 v S1 H1 hp2 R1 s1 g2⟩⟩
/-! ### a call of a built-in -/
/-- r on values is served by g on trees, the heap stays -/
def LiftC (K : PySem.W.Frag) (r : List V → Hp → VK → Prop) (g : List PyData → (PyData → Prop) → Prop) : Prop :=
  ∀ (S H : Hp) (vs : List V) (ds : List PyData) (P : PyData → Prop) (Q : VK), Same S H → DqAll K S vs ds → g ds P → (∀ z v, P z → Dq K S v z → Q v H) → r vs H Q
/-- .. looked at at once -/
def LiftCR (K : PySem.W.Frag) (r : List V → Hp → VK → Prop) (g : PyData → (PyData → Prop) → Prop) : Prop :=
  ∀ (H : Hp) (v : V) (d : PyData) (P : PyData → Prop) (Q : VK), Dq K H v d → g d P → (∀ z u, P z → (∀ S, Dq K S u z) → Q u H) → r [v] H Q
def LiftCN (K : PySem.W.Frag) (r : List V → Hp → VK → Prop) (g : List PyData → (List PyData → Prop) → Prop) : Prop :=
  ∀ (S H : Hp) (vs : List V) (ds : List PyData) (P : List PyData → Prop) (Q : VK), Same S H → DqAll K S vs ds → g ds P → (∀ p es us, H p = none → P es → DqAll K S us es → Q (.ref p) (upd H p (.lst us))) → r vs H Q
theorem snd_CB {K : PySem.W.Frag} {r : List V → Hp → VK → Prop} {g : List PyData → (PyData → Prop) → Prop} {t : TA} {w : WA} (L : LiftC K r g) (h : SndA K t w) : Snd K (tCB r t) (wFn g w) := fun F ρ P σ S H Q hw R q =>
  h F ρ _ σ S H _ hw R fun ds ρ1 vs S1 H1 h1 R1 s1 d1 => L S1 H1 vs ds _ Q R1.sub d1 h1 fun z v hz dz => q z ρ1 v S1 H1 hz R1 s1 dz
theorem snd_CBR {K : PySem.W.Frag} {r : List V → Hp → VK → Prop} {g : PyData → (PyData → Prop) → Prop} {t : TE} {w : W1} (L : LiftCR K r g) (h : SndR K t w) : Snd K (tCB r (tCons t tNil)) (wFn1 g w) := fun F ρ P σ S H Q hw R q =>
  h F ρ _ σ S H _ hw R fun d ρ1 v S1 H1 h1 R1 s1 d1 => L H1 v d _ Q d1 h1 fun z u hz dz => q z ρ1 u S1 H1 hz R1 s1 (dz S1)
theorem snd_CBN {K : PySem.W.Frag} {r : List V → Hp → VK → Prop} {g : List PyData → (List PyData → Prop) → Prop} {t : TA} {w : WA} (L : LiftCN K r g) (h : SndA K t w) : SndN K (tCB r t) (wFnN g w) := fun F ρ P σ S H Q hw R q =>
  h F ρ _ σ S H _ hw R fun ds ρ1 vs S1 H1 h1 R1 s1 d1 => L S1 H1 vs ds _ Q R1.sub d1 h1 fun p es us n hz dz => q es ρ1 p us S1 _ hz (R1.lay n _) s1 (R1.bare n) dz
variable {x : Str} {p : Pos} {es : List Expr} {t : TA} {wA : WA} {id T : String}
theorem ev_callB {r : List V → Hp → VK → Prop} {g : List PyData → (PyData → Prop) → Prop} (hc : CallR X (.builtin id) r) (L : LiftC X.K r g) (hm : X.mg x = none) (hv : bootBuiltins x = some (.builtin id)) (ha : EA X (e :: es) t wA) (hg : Gl X x := by rfl) (hn : x ≠ "__name__" := by decide) (hdb : (x == ("__debug__" : Str)) = false := by decide)
    (he : starEach (e :: es) X.env = (false, eval e X.env) :: starEach es X.env := by rfl) (hpl : (backTo pos (starEach es X.env)).any (·.1) = false := by rfl) : EV X (.Call (.Name x p) (e :: es) [] pos) (tCB r t) (wFn g wA) := ⟨pe_callB hc hg hm hv ha.pa hn hdb he hpl, snd_CB L ha.sd⟩
theorem ev_callTy {r : List V → Hp → VK → Prop} {g : List PyData → (PyData → Prop) → Prop} (hc : CallR X (.type T) r) (L : LiftC X.K r g) (hm : X.mg x = none) (hv : bootBuiltins x = some (.type T)) (ha : EA X (e :: es) t wA) (hg : Gl X x := by rfl) (hn : x ≠ "__name__" := by decide) (hdb : (x == ("__debug__" : Str)) = false := by decide)
    (he : starEach (e :: es) X.env = (false, eval e X.env) :: starEach es X.env := by rfl) (hpl : (backTo pos (starEach es X.env)).any (·.1) = false := by rfl) : EV X (.Call (.Name x p) (e :: es) [] pos) (tCB r t) (wFn g wA) := ⟨pe_callTy hc hg hm hv ha.pa hn hdb he hpl, snd_CB L ha.sd⟩
theorem en_callTy {r : List V → Hp → VK → Prop} {g : List PyData → (List PyData → Prop) → Prop} (hc : CallR X (.type T) r) (L : LiftCN X.K r g) (hm : X.mg x = none) (hv : bootBuiltins x = some (.type T)) (ha : EA X (e :: es) t wA) (hg : Gl X x := by rfl) (hn : x ≠ "__name__" := by decide) (hdb : (x == ("__debug__" : Str)) = false := by decide)
    (he : starEach (e :: es) X.env = (false, eval e X.env) :: starEach es X.env := by rfl) (hpl : (backTo pos (starEach es X.env)).any (·.1) = false := by rfl) : EN X (.Call (.Name x p) (e :: es) [] pos) (tCB r t) (wFnN g wA) := ⟨pe_callTy hc hg hm hv ha.pa hn hdb he hpl, snd_CBN L ha.sd⟩
theorem ev_callBR {r : List V → Hp → VK → Prop} {g : PyData → (PyData → Prop) → Prop} (hc : CallR X (.builtin id) r) (L : LiftCR X.K r g) (hm : X.mg x = none) (hv : bootBuiltins x = some (.builtin id)) (ha : ER X e te we) (hg : Gl X x := by rfl) (hn : x ≠ "__name__" := by decide) (hdb : (x == ("__debug__" : Str)) = false := by decide)
    (he : starEach [e] X.env = (false, eval e X.env) :: starEach [] X.env := by rfl) (hpl : (backTo pos (starEach [] X.env)).any (·.1) = false := by rfl) : EV X (.Call (.Name x p) [e] [] pos) (tCB r (tCons te tNil)) (wFn1 g we) := ⟨pe_callB hc hg hm hv (pa_cons ha.pe pa_nil he) hn hdb he hpl, snd_CBR L ha.sd⟩
/-- len -/
def gLen : PyData → (PyData → Prop) → Prop := fun d P => match d with
  | .list ds => P (.int ds.length)
  | .tuple ds => P (.int ds.length)
  | .str s => s.length ≤ sizeLine ∧ P (.int s.length)
  | _ => False
abbrev rLen (K : PySem.W.Frag) : List V → Hp → VK → Prop := fun xs H Q => ∃ x n, xs = [x] ∧ LenV K x H n ∧ Q (.int n) H
theorem lift_len {K : PySem.W.Frag} : LiftCR K (rLen K) gLen := fun H v d P Q dv hg q => by
  unfold gLen at hg
  split at hg
  · cases dv with
    | lst sq ha => exact ⟨_, _, rfl, .inl ⟨_, sq.l, rfl⟩, by rw [ha.len]; exact q _ _ hg fun _ => .int _⟩
  · cases dv with
    | tup sq ha => exact ⟨_, _, rfl, .inr ⟨_, sq, rfl⟩, by rw [ha.len]; exact q _ _ hg fun _ => .int _⟩
  · cases dv
    exact ⟨_, _, rfl, ⟨hg.1, rfl⟩, q _ _ hg.2 fun _ => .int _⟩
  · exact hg.elim
theorem ev_len {p : Pos} (hm : X.mg "len" = none) (ha : ER X e te we) (hg : Gl X "len" := by rfl) (he : starEach [e] X.env = (false, eval e X.env) :: starEach [] X.env := by rfl) (hpl : (backTo pos (starEach [] X.env)).any (·.1) = false := by rfl) :
    EV X (.Call (.Name "len" p) [e] [] pos) (tCB (rLen X.K) (tCons te tNil)) (wFn1 gLen we) := ev_callBR call_len lift_len hm PySem.boot_len ha hg (by decide) (by decide) he hpl
/-- int(..) -/
def gInt : List PyData → (PyData → Prop) → Prop := fun ds P => match ds with
  | [.int i] => P (.int i)
  | [.bool k] => P (.int (if k then 1 else 0))
  | _ => False
abbrev rInt : List V → Hp → VK → Prop := fun xs H Q => (∃ i, xs = [.int i] ∧ Q (.int i) H) ∨ ∃ k, xs = [.bl k] ∧ Q (.int (if k then 1 else 0)) H
theorem lift_int {K : PySem.W.Frag} : LiftC K rInt gInt := fun S H vs ds P Q sm d hg q => by
  unfold gInt at hg
  split at hg
  · cases d with
    | cons d1 d2 =>
      cases d1
      cases d2
      exact .inl ⟨_, rfl, q _ _ hg (.int _)⟩
  · cases d with
    | cons d1 d2 =>
      cases d1
      cases d2
      exact .inr ⟨_, rfl, q _ _ hg (.int _)⟩
  · exact hg.elim
theorem ev_int1 {p : Pos} (hm : X.mg "int" = none) (ha : EA X [e] t wA) (hg : Gl X "int" := by rfl) (he : starEach [e] X.env = (false, eval e X.env) :: starEach [] X.env := by rfl) (hpl : (backTo pos (starEach [] X.env)).any (·.1) = false := by rfl) :
    EV X (.Call (.Name "int" p) [e] [] pos) (tCB rInt t) (wFn gInt wA) := ev_callTy call_int1 lift_int hm (by decide +kernel) ha hg (by decide) (by decide) he hpl
/-- abs -/
def gAbs : List PyData → (PyData → Prop) → Prop := fun ds P => match ds with
  | [.int i] => P (.int (if i < 0 then -i else i))
  | _ => False
abbrev rAbs : List V → Hp → VK → Prop := fun xs H Q => ∃ i, xs = [.int i] ∧ Q (.int (if i < 0 then -i else i)) H
theorem lift_abs {K : PySem.W.Frag} : LiftC K rAbs gAbs := fun S H vs ds P Q sm d hg q => by
  unfold gAbs at hg
  split at hg
  · cases d with
    | cons d1 d2 =>
      cases d1
      cases d2
      exact ⟨_, rfl, q _ _ hg (.int _)⟩
  · exact hg.elim
theorem ev_abs {p : Pos} (hm : X.mg "abs" = none) (ha : EA X [e] t wA) (hg : Gl X "abs" := by rfl) (he : starEach [e] X.env = (false, eval e X.env) :: starEach [] X.env := by rfl) (hpl : (backTo pos (starEach [] X.env)).any (·.1) = false := by rfl) :
    EV X (.Call (.Name "abs" p) [e] [] pos) (tCB rAbs t) (wFn gAbs wA) := ev_callB call_abs lift_abs hm (by decide +kernel) ha hg (by decide) (by decide) he hpl
/-- min(a, b) -/
def gMin2 : List PyData → (PyData → Prop) → Prop := fun ds P => match ds with
  | [.int i, .int j] => P (.int (if j < i then j else i))
  | _ => False
abbrev rMin2 : List V → Hp → VK → Prop := fun xs H Q => ∃ i j, xs = [.int i, .int j] ∧ Q (.int (if j < i then j else i)) H
theorem lift_min2 {K : PySem.W.Frag} : LiftC K rMin2 gMin2 := fun S H vs ds P Q sm d hg q => by
  unfold gMin2 at hg
  split at hg
  · cases d with
    | cons d1 d2 =>
      cases d1
      cases d2 with
      | cons d3 d4 =>
        cases d3
        cases d4
        exact ⟨_, _, rfl, q _ _ hg (.int _)⟩
  · exact hg.elim
theorem ev_min2 {p : Pos} (hc : X.calm = true) (hm : X.mg "min" = none) (ha : EA X [e, a] t wA) (hg : Gl X "min" := by rfl) (he : starEach [e, a] X.env = (false, eval e X.env) :: starEach [a] X.env := by rfl) (hpl : (backTo pos (starEach [a] X.env)).any (·.1) = false := by rfl) :
    EV X (.Call (.Name "min" p) [e, a] [] pos) (tCB rMin2 t) (wFn gMin2 wA) := ev_callB (call_min2 hc) lift_min2 hm (by decide +kernel) ha hg (by decide) (by decide) he hpl
/-- list(..) of a list or tuple -/
def gList : List PyData → (List PyData → Prop) → Prop := fun ds P => match ds with
  | [.list es] => P es
  | [.tuple es] => P es
  | _ => False
abbrev rList (K : PySem.W.Frag) : List V → Hp → VK → Prop := fun xs H Q => ∃ p ys, xs = [.ref p] ∧ (SqL K H p ys ∨ SqT K H p ys) ∧ ∀ l, H l = none → Q (.ref l) (upd H l (.lst ys))
theorem lift_list {K : PySem.W.Frag} : LiftCN K (rList K) gList := fun S H vs ds P Q sm d hg q => by
  unfold gList at hg
  split at hg
  · cases d with
    | cons d1 d2 =>
      cases d2
      cases d1 with
      | lst sq ha => exact ⟨_, _, rfl, .inl (same_sqL sm sq), fun l n => q l _ _ n hg ha⟩
  · cases d with
    | cons d1 d2 =>
      cases d2
      cases d1 with
      | tup sq ha => exact ⟨_, _, rfl, .inr (same_sqT sm sq), fun l n => q l _ _ n hg ha⟩
  · exact hg.elim
theorem en_list {p : Pos} (hm : X.mg "list" = none) (ha : EA X [e] t wA) (hg : Gl X "list" := by rfl) (he : starEach [e] X.env = (false, eval e X.env) :: starEach [] X.env := by rfl) (hpl : (backTo pos (starEach [] X.env)).any (·.1) = false := by rfl) :
    EN X (.Call (.Name "list" p) [e] [] pos) (tCB (rList X.K) t) (wFnN gList wA) := en_callTy call_list_of lift_list hm (by decide +kernel) ha hg (by decide) (by decide) he hpl
/-- tuple(..) of a list or tuple; the argument may be a list that a slot holds alone -/
abbrev rTup1 (K : PySem.W.Frag) : List V → Hp → VK → Prop := fun xs H Q => ∃ p ys, xs = [.ref p] ∧ ((SqL K H p ys ∧ ∀ l, H l = none → Q (.ref l) (upd H l (.tup ys))) ∨ (SqT K H p ys ∧ Q (.ref p) H))
theorem ev_tuple1 {p : Pos} (hm : X.mg "tuple" = none) (ha : EV X e te we) (hg : Gl X "tuple" := by rfl) (he : starEach [e] X.env = (false, eval e X.env) :: starEach [] X.env := by rfl) (hpl : (backTo pos (starEach [] X.env)).any (·.1) = false := by rfl) :
    EV X (.Call (.Name "tuple" p) [e] [] pos) (tCB (rTup1 X.K) (tCons te tNil)) (wTuple1 we) := ⟨pe_callTy call_tuple_of hg hm (by decide +kernel) (pa_cons ha.pe pa_nil he) (by decide) (by decide) he hpl, fun F ρ P σ S H Q hw R q =>
  ha.sd F ρ _ σ S H _ hw R fun d ρ1 v S1 H1 h1 R1 s1 d1 => by
    unfold gTup1 at h1
    split at h1
    · cases d1 with
      | lst sq hd => exact ⟨_, _, rfl, .inl ⟨same_sqL R1.sub sq, fun l n => q _ ρ1 _ _ _ h1 (R1.new n (.tup _)) (s1.trans (same_new (same_none R1.sub n))) (.tup (SqT.of upd_same) (dpAll_mono (same_new (same_none R1.sub n)) _ _ hd))⟩⟩
    · cases d1 with
      | tup sq hd => exact ⟨_, _, rfl, .inr ⟨same_sqT R1.sub sq, q _ ρ1 _ S1 H1 h1 R1 s1 (.tup sq hd)⟩⟩
    · exact h1.elim⟩
/-- all(..) of a list of truths -/
def boolsOf : List PyData → Option (List Bool)
  | [] => some []
  | .bool b :: r => (boolsOf r).map (b :: ·)
  | _ => none
theorem bools_dp {K : PySem.W.Frag} {S : Hp} : ∀ {ds : List PyData} {vs : List V} {bs : List Bool}, DqAll K S vs ds → boolsOf ds = some bs → vs = bs.map V.bl
  | [], _, _, h, e => by cases h; cases e; rfl
  | d :: r, _, bs, h, e => by
    cases h with
    | cons h1 h2 =>
      cases h1 with
      | bl b =>
        cases e2 : boolsOf r with
        | none => rw [show boolsOf (.bool b :: r) = (boolsOf r).map (b :: ·) from rfl, e2] at e; cases e
        | some cs =>
          rw [show boolsOf (.bool b :: r) = (boolsOf r).map (b :: ·) from rfl, e2] at e
          cases e
          rw [bools_dp h2 e2]
          rfl
      | _ => cases e
def gAll : PyData → (PyData → Prop) → Prop := fun d P => match d with
  | .list ds => ∃ bs, boolsOf ds = some bs ∧ P (.bool (bs.all fun b => b))
  | _ => False
theorem lift_all {K : PySem.W.Frag} : LiftCR K (rAll K) gAll := fun H v d P Q dv hg q => by
  unfold gAll at hg
  split at hg
  · obtain ⟨bs, e, hp⟩ := hg
    cases dv with
    | lst sq ha =>
      rw [bools_dp ha e] at sq
      exact ⟨_, bs, rfl, sq.l, q _ _ (show P (.bool (bs.all _root_.id)) from hp) fun _ => .bl _⟩
  · exact hg.elim
theorem ev_all (hc : CallR X (.builtin "all") (rAll X.K)) {p : Pos} (hm : X.mg "all" = none) (ha : ER X e te we) (hg : Gl X "all" := by rfl) (he : starEach [e] X.env = (false, eval e X.env) :: starEach [] X.env := by rfl) (hpl : (backTo pos (starEach [] X.env)).any (·.1) = false := by rfl) :
    EV X (.Call (.Name "all" p) [e] [] pos) (tCB (rAll X.K) (tCons te tNil)) (wFn1 gAll we) := ev_callBR hc lift_all hm (by decide +kernel) ha hg (by decide) (by decide) he hpl

/-! ### a slot's own list, changed -/
/-- x.append(e) -/
theorem sv_append (i : Nat) {x : Str} {px pa pc pos : Pos} (he : EV X e te we) (hN : X.N[i]? = some x := by rfl) (hv : Vis X.env.scope x := by first | exact Or.inl rfl | exact Or.inr (Or.inl rfl) | exact Or.inr (Or.inr rfl)) (hd : (x == ("__debug__" : Str)) = false := by decide) (hcd : (x == ("__classdict__" : Str)) = false := by decide)
    (hbase : attributeBase (.Name x px) "append" X.env (eval (.Name x px) X.env) = eval (.Name x px) X.env := by rfl)
    (hfew : ((backTo pc (starEach [e] X.env)).all (fun x => !x.1) && (backToKw pc (keywordEach [] X.env)).all (fun x => x.1.isSome)
      && decide ([e].length + ([] : List Keyword).length + (if ([] : List Keyword).isEmpty then 0 else 1) < 30)) = true := by rfl)
    (hline : (pa.endLine == pc.line) = true := by rfl) (hs : starEach [e] X.env = (false, eval e X.env) :: starEach [] X.env := by rfl) (hpl : (backTo pc (starEach [] X.env)).any (·.1) = false := by rfl)
    (hsw : swapsWith (.Call (.Attribute (.Name x px) "append" pa) [e] [] pc) none pos.line X.env = pure false := by rfl) :
    SV X (.Expr (.Call (.Attribute (.Name x px) "append" pa) [e] [] pc) pos) (tDrop (tBM X.K "list" rAppend (tVar i) (tCons te tNil))) (wAppend i we) :=
  ⟨ps_expr (pe_bm PySem.F.plainAttrs_list PySem.F.slot_list_append PySem.F.type_list_append mt_append (pe_var hN hv hd hcd) (pa_cons he.pe pa_nil hs) hbase hfew hline hs hpl) hsw, fun F ρ N σ S H D hw R T => by
  obtain ⟨m0, d0, e0, hw⟩ := hw.out
  obtain ⟨a0, v0, z0, y0, _⟩ := R.own i m0 d0 e0
  refine ⟨.ref a0, z0, .inl ⟨rfl, _, SqL.of y0⟩, he.sd F ρ _ σ S H _ hw R fun d ρ1 v S1 H1 hp R1 s1 d1 => ?_⟩
  obtain ⟨m, ds, e1, hz, hp⟩ := hp.out
  obtain ⟨a1, vs, z1, z2, z3, z4, z5⟩ := R1.own i m ds e1
  rw [z0] at z1
  cases z1
  exact ⟨a0, vs, v, rfl, rfl, z2, by rw [z4.len]; exact hz, T.nx _ σ S1 _ hp (R1.mut e1 z0 (z4.snoc d1)) s1⟩⟩
/-- x.pop(e) -/
theorem ev_popAt (i : Nat) {x : Str} {px pa pc : Pos} (he : EV X e te we) (hN : X.N[i]? = some x := by rfl) (hv : Vis X.env.scope x := by first | exact Or.inl rfl | exact Or.inr (Or.inl rfl) | exact Or.inr (Or.inr rfl)) (hd : (x == ("__debug__" : Str)) = false := by decide) (hcd : (x == ("__classdict__" : Str)) = false := by decide)
    (hbase : attributeBase (.Name x px) "pop" X.env (eval (.Name x px) X.env) = eval (.Name x px) X.env := by rfl)
    (hfew : ((backTo pc (starEach [e] X.env)).all (fun x => !x.1) && (backToKw pc (keywordEach [] X.env)).all (fun x => x.1.isSome)
      && decide ([e].length + ([] : List Keyword).length + (if ([] : List Keyword).isEmpty then 0 else 1) < 30)) = true := by rfl)
    (hline : (pa.endLine == pc.line) = true := by rfl) (hs : starEach [e] X.env = (false, eval e X.env) :: starEach [] X.env := by rfl) (hpl : (backTo pc (starEach [] X.env)).any (·.1) = false := by rfl) :
    EV X (.Call (.Attribute (.Name x px) "pop" pa) [e] [] pc) (tBM X.K "list" rPopAt (tVar i) (tCons te tNil)) (wPopAt i we) :=
  ⟨pe_bm PySem.F.plainAttrs_list PySem.F.slot_list_pop PySem.F.type_list_pop mt_popAt (pe_var hN hv hd hcd) (pa_cons he.pe pa_nil hs) hbase hfew hline hs hpl, fun F ρ P σ S H Q hw R q => by
  obtain ⟨m0, d0, e0, hw⟩ := hw.out
  obtain ⟨a0, v0, z0, y0, _⟩ := R.own i m0 d0 e0
  refine ⟨.ref a0, z0, .inl ⟨rfl, _, SqL.of y0⟩, he.sd F ρ _ σ S H _ hw R fun d ρ1 v S1 H1 hp R1 s1 d1 => ?_⟩
  obtain ⟨m, ds, e1, hp⟩ := hp.out
  obtain ⟨k, rfl, hk, hp⟩ := hp.out
  obtain ⟨z, hz, hp⟩ := hp.out
  cases d1
  obtain ⟨a1, vs, z1, z2, z3, z4, z5⟩ := R1.own i m ds e1
  rw [z0] at z1
  cases z1
  obtain ⟨u, g1, g2⟩ := z4.at hz
  have hlt : k < vs.length := (List.getElem?_eq_some_iff.mp g1).1
  refine ⟨a0, vs, k, k, u, rfl, rfl, z2, by omega, by omega, ?_, g1, q z _ u S1 _ hp (R1.mut e1 z0 (z4.eraseIdx k)) s1 g2⟩
  unfold seqIndex?
  simp
  omega⟩
/-- x[e1] = e -/
theorem sv_setO (i : Nat) {x : Str} {px ps pos : Pos} {e1 : Expr} {t1 : TE} {w1 : W1} (he : EV X e te we) (h1 : EV X e1 t1 w1) (hpg : PG X (.Subscript (.Name x px) e1 ps) (gSub (tVar i) t1 rSetL)) (hN : X.N[i]? = some x := by rfl) (hv : Vis X.env.scope x := by first | exact Or.inl rfl | exact Or.inr (Or.inl rfl) | exact Or.inr (Or.inr rfl)) (hd : (x == ("__debug__" : Str)) = false := by decide) (hcd : (x == ("__classdict__" : Str)) = false := by decide)
    (hs : swapsWithSole [.Subscript (.Name x px) e1 ps] e pos.line X.env = pure false := by rfl) (hw : swappedStores [.Subscript (.Name x px) e1 ps] e X.env = pure none := by rfl)
    (ha : (assignEach [.Subscript (.Name x px) e1 ps] X.env).map (·.2) = [assign (.Subscript (.Name x px) e1 ps) X.env] := by rfl) :
    SV X (.Assign [.Subscript (.Name x px) e1 ps] e pos) (tAsg te (gSub (tVar i) t1 rSetL)) (wSetO i we w1) :=
  ⟨ps_asg he.pe hpg hs hw ha, fun F ρ N σ S H D hw R T =>
  he.sd F ρ _ σ S H _ hw R fun d ρ1 v S1 H1 hp R1 s1 d1 => by
    obtain ⟨m0, d0, e0, hp⟩ := hp.out
    obtain ⟨a0, v0, z0, y0, _⟩ := R1.own i m0 d0 e0
    refine ⟨.ref a0, z0, h1.sd F ρ1 _ σ S1 H1 _ hp R1 fun y ρ2 vy S2 H2 hp R2 s2 d2 => ?_⟩
    obtain ⟨m, ds, e2, hp⟩ := hp.out
    obtain ⟨k, rfl, hk, hp⟩ := hp.out
    cases d2
    obtain ⟨a1, vs, z1, z2, z3, z4, z5⟩ := R2.own i m ds e2
    rw [z0] at z1
    cases z1
    refine ⟨a0, vs, k, k, rfl, rfl, z2, ?_, T.nx _ σ S2 _ hp (R2.mut e2 z0 (z4.set k (dp_mono s2 d v d1))) (s1.trans s2)⟩
    unfold ixN
    rw [if_pos (by omega), if_pos (by rw [z4.len]; omega)]
    simp⟩
end
end Tr
set_option Elab.async false
set_option linter.all false
set_option maxRecDepth 100000
set_option maxHeartbeats 2000000
/-! Tr6: comprehensions, slices, + of lists and tuples, in -/
namespace Tr
open PySem PySem.Spec PyProof.Rows L2
variable [Tabbed]

/-! ### an object that is held meanwhile -/
def Fm.hold (F : Fm) (p : Addr) (o : HO) : Fm := { F with H0 := upd F.H0 p o }
section
variable {K : PySem.W.Frag} {F : Fm} {S H : Hp} {σ : L2.St} {ρ : En} {p : Addr} {vs : List V}
theorem Rep.hold (R : Rep K F S H σ ρ) (B : Bare F S H σ ρ p vs) : Rep K (F.hold p (.lst vs)) S H σ ρ where
  sub := R.sub
  s0 := R.s0
  fresh := fun b h1 h2 => by
    have hb : b ≠ p := fun z => h2 (z ▸ B.s)
    show upd F.H0 p _ b = none
    rw [upd_ne hb]
    exact R.fresh b h1 h2
  keep := fun b o e hm => by
    by_cases hb : b = p
    · subst hb
      rw [show (F.hold b (.lst vs)).H0 b = some (.lst vs) from upd_same] at e
      cases e
      exact B.at_
    · rw [show (F.hold p (.lst vs)).H0 b = F.H0 b from upd_ne hb] at e
      exact R.keep b o e hm
  m0 := fun b hm => by
    by_cases hb : b = p
    · subst hb
      exact fun _ => R.m0 b hm B.h0
    · rw [show (F.hold p (.lst vs)).H0 b = F.H0 b from upd_ne hb]
      exact R.m0 b hm
  mt := R.mt
  tok := R.tok
  tfree := R.tfree
  len := R.len
  at_ := R.at_
  own := fun i m ds e => by
    obtain ⟨a, ws, h1, h2, h3, h4, h5⟩ := R.own i m ds e
    refine ⟨a, ws, h1, h2, h3, h4, ?_⟩
    cases m with
    | true => exact h5
    | false =>
      have hb : a ≠ p := fun z => B.ap i false ds e (by rw [h1, z])
      rw [if_neg Bool.false_ne_true]
      exact (upd_ne hb).trans (show F.H0 a = none from h5)
  apart := R.apart
  dic := R.dic
theorem Rep.unhold (R : Rep K (F.hold p (.lst vs)) S H σ ρ) (h0 : F.H0 p = none) (hs : F.S0 p = none) (hm : ¬ F.M p) : Rep K F S H σ ρ ∧ Bare F S H σ ρ p vs := by
  have hat : H p = some (.lst vs) := R.keep p _ upd_same hm
  have hS : S p = none := by
    cases e : S p with
    | none => rfl
    | some o =>
      have z := R.fresh p hs (by rw [e]; simp)
      rw [show (F.hold p (.lst vs)).H0 p = some (.lst vs) from upd_same] at z
      cases z
  have low : ∀ a, (F.hold p (.lst vs)).H0 a = none → a ≠ p ∧ F.H0 a = none := fun a e => by
    by_cases hb : a = p
    · subst hb
      rw [show (F.hold a (.lst vs)).H0 a = some (.lst vs) from upd_same] at e
      cases e
    · exact ⟨hb, (upd_ne hb).symm.trans e⟩
  refine ⟨⟨R.sub, R.s0, fun b h1 h2 => (low b (R.fresh b h1 h2)).2, fun b o e hb => ?_, fun b hb z => ?_, R.mt, R.tok, R.tfree, R.len, R.at_, fun i m ds e => ?_, R.apart, R.dic⟩, ⟨hat, hS, h0, fun i m ds e z => ?_⟩⟩
  · by_cases hbp : b = p
    · subst hbp
      rw [h0] at e
      cases e
    · exact R.keep b o ((upd_ne hbp).trans e) hb
  · by_cases hbp : b = p
    · exact hm (hbp ▸ hb)
    · exact R.m0 b hb ((upd_ne hbp).trans z)
  · obtain ⟨a, ws, h1, h2, h3, h4, h5⟩ := R.own i m ds e
    refine ⟨a, ws, h1, h2, h3, h4, ?_⟩
    cases m with
    | true => exact h5
    | false => exact (low a h5).2
  · obtain ⟨a, ws, h1, h2, h3, h4, h5⟩ := R.own i m ds e
    rw [h1] at z
    cases z
    cases m with
    | true => exact hm h5
    | false => exact (low p h5).1 rfl
/-- what a comprehension's names were is forgotten -/
theorem Rep.wiped (R : Rep K F S H σ ρ) : ∀ (ws : List Nat), (∀ v ∈ ws, ρ[v]? = some .un) → Rep K F S H (wipe σ ws) ρ := fun ws hw => by
  have hget : ∀ (i : Nat), i ∉ ws → (wipe σ ws)[i]? = σ[i]? := fun i hi => wipe_out hi
  have nin : ∀ (i : Nat) (x : Sl), ρ[i]? = some x → x ≠ .un → i ∉ ws := fun i x e hx hi => by
    rw [hw i hi] at e
    cases e
    exact hx rfl
  refine ⟨R.sub, R.s0, R.fresh, R.keep, R.m0, R.mt, R.tok, R.tfree, by rw [wipe_length]; exact R.len, fun i d e => ?_, fun i m ds e => ?_, fun i j m n ds es hne e e' => ?_, fun i m e => ?_⟩
  · rw [hget i (nin i _ e (by simp))]
    exact R.at_ i d e
  · rw [hget i (nin i _ e (by simp))]
    exact R.own i m ds e
  · rw [hget i (nin i _ e (by simp)), hget j (nin j _ e' (by simp))]
    exact R.apart i j m n ds es hne e e'
  · rw [hget i (nin i _ e (by simp))]
    exact R.dic i m e
def wipeE (ρ : En) : List Nat → En
  | [] => ρ
  | v :: vs => (wipeE ρ vs).set v .un
theorem wipeE_len (ρ : En) : ∀ ws : List Nat, (wipeE ρ ws).length = ρ.length
  | [] => rfl
  | v :: vs => by unfold wipeE; rw [List.length_set, wipeE_len ρ vs]
theorem wipeE_out {ρ : En} {i : Nat} : ∀ {ws : List Nat}, i ∉ ws → (wipeE ρ ws)[i]? = ρ[i]?
  | [], _ => rfl
  | v :: vs, h => by
    unfold wipeE
    rw [List.getElem?_set_ne (fun z => h (by rw [z]; exact List.mem_cons_self)), wipeE_out fun z => h (List.mem_cons_of_mem _ z)]
theorem wipeE_in {ρ : En} {i : Nat} {x : Sl} : ∀ {ws : List Nat}, i ∈ ws → (wipeE ρ ws)[i]? = some x → x = .un
  | v :: vs, hi, e => by
    unfold wipeE at e
    by_cases hv : v = i
    · subst hv
      by_cases hl : v < (wipeE ρ vs).length
      · rw [List.getElem?_set_self hl] at e
        cases e
        rfl
      · rw [List.getElem?_eq_none (by simpa using hl)] at e
        cases e
    · rw [List.getElem?_set_ne hv] at e
      rcases List.mem_cons.mp hi with z | z
      · exact absurd z.symm hv
      · exact wipeE_in z e
theorem Rep.back {σ2 : L2.St} {ws : List Nat} (R : Rep K F S H σ2 ρ) (hl : σ2.length = σ.length) (ag : ∀ j, j ∉ ws → σ2[j]? = σ[j]?) : Rep K F S H σ (wipeE ρ ws) := by
  have key : ∀ (i : Nat) (x : Sl), (wipeE ρ ws)[i]? = some x → x ≠ .un → ρ[i]? = some x ∧ σ2[i]? = σ[i]? := fun i x e hx => by
    by_cases hi : i ∈ ws
    · exact absurd (wipeE_in hi e) hx
    · rw [wipeE_out hi] at e
      exact ⟨e, ag i hi⟩
  refine ⟨R.sub, R.s0, R.fresh, R.keep, R.m0, R.mt, R.tok, R.tfree, by rw [wipeE_len, ← R.len, hl], fun i d e => ?_, fun i m ds e => ?_, fun i j m n ds es hne e e' => ?_, fun i m e => ?_⟩
  · obtain ⟨h1, h2⟩ := key i _ e (by simp)
    rw [← h2]
    exact R.at_ i d h1
  · obtain ⟨h1, h2⟩ := key i _ e (by simp)
    rw [← h2]
    exact R.own i m ds h1
  · obtain ⟨h1, h2⟩ := key i _ e (by simp)
    obtain ⟨h3, h4⟩ := key j _ e' (by simp)
    rw [← h2, ← h4]
    exact R.apart i j m n ds es hne h1 h3
  · obtain ⟨h1, h2⟩ := key i _ e (by simp)
    rw [← h2]
    exact R.dic i m h1
theorem wipe_in {σ : L2.St} {i : Nat} : ∀ {ws : List Nat}, i ∈ ws → (wipe σ ws)[i]? = if i < σ.length then some none else none
  | v :: vs, hi => by
    unfold wipe
    by_cases hv : v = i
    · subst hv
      by_cases hl : v < σ.length
      · rw [List.getElem?_set_self (by rw [wipe_length]; exact hl), if_pos hl]
      · rw [List.getElem?_eq_none (by rw [List.length_set, wipe_length]; omega), if_neg hl]
    · rw [List.getElem?_set_ne hv]
      rcases List.mem_cons.mp hi with z | z
      · exact absurd z.symm hv
      · exact wipe_in z
theorem wipe_agr {σ σ2 : L2.St} {ts ws : List Nat} (h : Agr ts (wipe σ ws) σ2) (hs : ∀ j ∈ ts, j ∈ ws) : wipe σ2 ws = wipe σ ws := by
  apply List.ext_getElem?
  intro i
  have hl : σ2.length = σ.length := h.1.trans (wipe_length σ ws)
  by_cases hi : i ∈ ws
  · rw [wipe_in hi, wipe_in hi, hl]
  · rw [wipe_out hi, wipe_out hi, h.2 i (fun z => hi (hs i z)), wipe_out hi]
end
/-- a clause's tests -/
structure ETs (X : Cx) (ifs : List Expr) (t : TT) (w : WT) : Prop where
  pt : PTs X ifs t
  sd : SndT X.K t w
def wYes : WT := fun ρ P => P true ρ
theorem ets_nil {X : Cx} : ETs X [] tYes wYes := ⟨pts_nil, fun F ρ P σ S H Q hw R q => q true ρ S H hw R (Same.refl S)⟩
theorem ets_one {X : Cx} {c : Expr} {t : TT} {w : WT} (h : ET X c t w) : ETs X [c] t w := ⟨pts_one h.pt, h.sd⟩
/-- [elt for tg in it if ..]: I by the turn, what is made so far, the slots -/
def wTurn (wg : WG) (wt : WT) (we : W1) (ws : List Nat) (I : Nat → List PyData → En → Prop) (k : Nat) (x : PyData) (acc : List PyData) (ρ2 : En) : Prop :=
  (∀ v ∈ ws, ρ2[v]? = some .un) ∧ wg x ρ2 fun ρ3 => wt ρ3 fun b ρ4 => if b = true then we ρ4 fun y ρ5 => acc.length < sizeLine ∧ I (k + 1) (acc ++ [y]) (wipeE ρ5 ws) else I (k + 1) acc (wipeE ρ4 ws)
def wLc (wi : W1) (wg : WG) (wt : WT) (we : W1) (ws : List Nat) : WA := fun ρ P => ∃ tupS : Bool, wi ρ fun d ρ1 => ∃ ds, d = seqOf tupS ds ∧ ∃ I : Nat → List PyData → En → Prop, I 0 [] ρ1 ∧
  (∀ k x acc ρ2, ds[k]? = some x → I k acc ρ2 → wTurn wg wt we ws I k x acc ρ2) ∧ ∀ acc ρ2, I ds.length acc ρ2 → P acc ρ2
section
variable {K : PySem.W.Frag} {F : Fm} {S1 : Hp} {σ : L2.St} {g : TG} {tt : TT} {te : TE} {wg : WG} {wt : WT} {we : W1} {ts ws : List Nat} {I : Nat → List PyData → En → Prop} {D : Addr}
/-- what stands between two turns -/
def LcAt (K : PySem.W.Frag) (F : Fm) (S1 : Hp) (σ : L2.St) (D : Addr) (I : Nat → List PyData → En → Prop) (i : Nat) (H : Hp) : Prop :=
  ∃ S' ρ' acc us, Rep K F S' H σ ρ' ∧ Same S1 S' ∧ Bare F S' H σ ρ' D us ∧ DqAll K S' us acc ∧ I i acc ρ'
theorem lc_turn (hg : SndG K g ts wg) (ht : SndT K tt wt) (he : Snd K te we) (hts : ∀ j ∈ ts, j ∈ ws) {i : Nat} {x : V} {y : PyData} {H : Hp} (dy : Dq K S1 x y) (hm : ¬ F.M D) (hs0 : F.S0 D = none) (turn : ∀ acc ρ2, I i acc ρ2 → wTurn wg wt we ws I i y acc ρ2) (h : LcAt K F S1 σ D I i H) :
    g x (wipe σ ws) H fun σ2 H2 => wipe σ2 ws = wipe σ ws ∧ tt σ2 H2 fun b H3 =>
      if b = true then te σ2 H3 fun z H4 => ∃ acc, H4 D = some (.lst acc) ∧ acc.length < sizeLine ∧ LcAt K F S1 σ D I (i + 1) (upd H4 D (.lst (acc ++ [z]))) else LcAt K F S1 σ D I (i + 1) H3 := by
  obtain ⟨S', ρ', acc, us, R, sm, B, da, hI⟩ := h
  obtain ⟨hun, hw⟩ := turn acc ρ' hI
  have Rh := (R.hold B).wiped ws hun
  refine hg (F.hold D (.lst us)) ρ' _ (wipe σ ws) S' H x y _ hw Rh (dp_mono sm y x dy) fun ρ3 σ3 h3 R3 ag => ⟨wipe_agr ag hts, ?_⟩
  have hl3 : σ3.length = σ.length := ag.1.trans (wipe_length σ ws)
  have ag3 : ∀ j, j ∉ ws → σ3[j]? = σ[j]? := fun j hj => (ag.2 j fun z => hj (hts j z)).trans (wipe_out hj)
  refine ht _ ρ3 _ σ3 S' H _ h3 R3 fun b ρ4 S4 H4 h4 R4 s4 => ?_
  cases b with
  | true =>
    rw [if_pos rfl] at h4 ⊢
    refine he _ ρ4 _ σ3 S4 H4 _ h4 R4 fun z ρ5 v S5 H5 h5 R5 s5 d5 => ?_
    obtain ⟨R6, B6⟩ := (R5.back hl3 ag3).unhold B.h0 hs0 hm
    refine ⟨us, B6.at_, by rw [da.len]; exact h5.1, S5, _, acc ++ [z], us ++ [v], R6.poke B6.at_ B6.s B6.h0 B6.ap _, sm.trans (s4.trans s5), ⟨upd_same, B6.s, B6.h0, B6.ap⟩, (dpAll_mono (s4.trans s5) acc us da).snoc d5, h5.2⟩
  | false =>
    rw [if_neg Bool.false_ne_true] at h4 ⊢
    obtain ⟨R6, B6⟩ := (R4.back hl3 ag3).unhold B.h0 hs0 hm
    exact ⟨S4, _, acc, us, R6, sm.trans s4, B6, dpAll_mono s4 acc us da, h4⟩
end
section
variable {X : Cx} {elt tg it : Expr} {ifs : List Expr} {scope : Scope} {own : List (Str × Nat)} {pos : Pos} {ti : TE} {wi : W1} {g : TG} {ts : List Nat} {wg : WG} {tt : TT} {wt : WT} {te : TE} {we : W1}
theorem snd_lc {K : PySem.W.Frag} {ws : List Nat} (hi : Snd K ti wi) (hg : SndG K g ts wg) (ht : SndT K tt wt) (he : Snd K te we) (hts : ∀ j ∈ ts, j ∈ ws) : SndN K (tLc (iSeq K ti) g tt te ws) (wLc wi wg wt we ws) := fun F ρ P σ S H Q hw R q => by
  obtain ⟨tupS, hw⟩ := hw
  have start : ∀ (S1 H1 : Hp) (ρ1 : En) (D : Addr) (I : Nat → List PyData → En → Prop), Rep K F S1 H1 σ ρ1 → I 0 [] ρ1 → H1 D = none → LcAt K F S1 σ D I 0 (upd H1 D (.lst [])) := fun S1 H1 ρ1 D I R1 i0 n => ⟨S1, ρ1, [], [], R1.lay n _, Same.refl _, R1.bare n, .nil, i0⟩
  have fin : ∀ (S1 H' : Hp) (D : Addr) (ds : List PyData) (m : Nat) (I : Nat → List PyData → En → Prop), m = ds.length → (∀ acc ρ2, I ds.length acc ρ2 → P acc ρ2) → Same S S1 → LcAt K F S1 σ D I m H' → Q (.ref D) H' := fun S1 H' D ds m I hm hf s1 ⟨S', ρ', acc, us, R', sm, B, da, hI⟩ =>
    q acc ρ' D us S' H' (hf acc ρ' (hm ▸ hI)) R' (s1.trans sm) B da
  cases tupS with
  | false =>
    refine .inl (hi F ρ _ σ S H _ hw R fun d ρ1 v S1 H1 h1 R1 s1 d1 => ?_)
    obtain ⟨ds, ed, I, i0, turn, hf⟩ := h1
    subst ed
    cases d1 with
    | @lst a xs _ sq hd =>
      refine ⟨a, rfl, ⟨xs, same_sqL R1.sub sq⟩, fun D n => lc_list (xs := xs) (LcAt K F S1 σ D I) (start S1 H1 ρ1 D I R1 i0 n) (fun i H _ ⟨S', ρ', acc, us, R', sm, _⟩ => same_sqL (sm.trans R'.sub) sq) (fun i x H hx hL => ?_) fun H hL => fin S1 H D ds xs.length I hd.len hf s1 hL⟩
      obtain ⟨y, hy, dy⟩ := hd.at' hx
      exact lc_turn hg ht he hts dy (fun z => R1.m0 D z (R1.h0 n)) (same_none R1.s0 (same_none R1.sub n)) (fun acc ρ2 hI => turn i y acc ρ2 hy hI) hL
  | true =>
    refine .inr (hi F ρ _ σ S H _ hw R fun d ρ1 v S1 H1 h1 R1 s1 d1 => ?_)
    obtain ⟨ds, ed, I, i0, turn, hf⟩ := h1
    subst ed
    cases d1 with
    | @tup a xs _ sq hd =>
      refine ⟨a, rfl, ⟨xs, same_sqT R1.sub sq⟩, fun D n => lc_tup (xs := xs) (LcAt K F S1 σ D I) (start S1 H1 ρ1 D I R1 i0 n) (fun i H _ ⟨S', ρ', acc, us, R', sm, _⟩ => same_sqT (sm.trans R'.sub) sq) (fun i x H hx hL => ?_) fun H hL => fin S1 H D ds xs.length I hd.len hf s1 hL⟩
      obtain ⟨y, hy, dy⟩ := hd.at' hx
      exact lc_turn hg ht he hts dy (fun z => R1.m0 D z (R1.h0 n)) (same_none R1.s0 (same_none R1.sub n)) (fun acc ρ2 hI => turn i y acc ρ2 hy hI) hL
/-- a comprehension -/
theorem en_lc (own : List (Str × Nat)) (hc : X.calm = true) (hN : X.N.Nodup) (hi : EV X it ti wi) (hok : BlkOk X.N X.env.scope scope own)
    (hg : ∀ (s : Shared) (H : Hp) (C : Addr) (cl : List (Str × Addr)) (fp : List Addr), GV (X.blk s H scope (compEnvC scope cl C X.env) fp) tg g ts wg) (ht : ∀ (s : Shared) (H : Hp) (C : Addr) (cl : List (Str × Addr)) (fp : List Addr), ETs (X.blk s H scope (compEnvC scope cl C X.env) fp) ifs tt wt)
    (he : ∀ (s : Shared) (H : Hp) (C : Addr) (cl : List (Str × Addr)) (fp : List Addr), EV (X.blk s H scope (compEnvC scope cl C X.env) fp) elt te we) (hts : ∀ j ∈ ts, j ∈ own.map (·.2)) (hs : ∀ x, foldedSetIterable it X.env x = pure x := by intro _; rfl) :
    EN X (.ListComp elt [⟨tg, it, ifs, 0⟩] scope pos) (tLc (iSeq X.K ti) g tt te (own.map (·.2))) (wLc wi wg wt we (own.map (·.2))) :=
  ⟨pe_lc hc hN (pi_seq hi.pe) hok (fun s H C cl fp => (hg s H C cl fp).pg) (fun s H C cl fp => (ht s H C cl fp).pt) (fun s H C cl fp => (he s H C cl fp).pe) hs,
    snd_lc hi.sd (fun F ρ P σ S H v d Q => (hg {} (fun _ => none) 0 [] []).sd F ρ P σ S H v d Q) (fun F ρ P σ S H Q => (ht {} (fun _ => none) 0 [] []).sd F ρ P σ S H Q) (fun F ρ P σ S H Q => (he {} (fun _ => none) 0 [] []).sd F ρ P σ S H Q) hts⟩
end
end Tr
set_option Elab.async false
set_option linter.all false
set_option maxRecDepth 100000
set_option maxHeartbeats 2000000
/-! Tr7: slices, + and * of lists and tuples, in, repr, comprehensions over ranges and given to names -/
namespace Tr
open PySem PySem.Spec PyProof.Rows L2
variable [Tabbed]

/-! ### + -/
def rCatQ (K : PySem.W.Frag) : R2 := fun x y H Q => ∃ l b xs zs, x = .ref l ∧ y = .ref b ∧ SqQ K H l xs ∧ SqQ K H b zs ∧ xs.length + zs.length ≤ sizeLine ∧ ∀ p, H p = none → Q (.ref p) (upd H p (.lst (xs ++ zs)))
def wRep (wn : WA) (wb : W1) : WA := fun ρ P => wn ρ fun ds ρ1 => wb ρ1 fun y ρ2 => asNat y fun k => k < 1000000 ∧ ds.length * k ≤ sizeLine ∧ P (List.replicate k ds).flatten ρ2
section
variable {X : Cx} {a b e : Expr} {ta tb te : TE} {wa wb we : W1} {wn wm : WA} {pos : Pos}
theorem sqQ_obj {pins : List (Addr × Obj)} {σ : L2.St} {H : Hp} {s : Shared} {l : Addr} {xs : List V} (I : L2.Inv X pins σ H s) (h : SqQ X.K H l xs) : ∃ (its : List Value) (n : Nat), Vals xs its ∧ s.heap.get? l = some { cls := .type "list", data := .seq its.toArray n } := by
  rcases h with h | ⟨its, n, h1, h2, h3⟩
  · obtain ⟨_, its, n, r, e⟩ := h.ok I.hok
    exact ⟨its, n, r, e⟩
  · exact ⟨its, n, h3, I.kIn l _ h1⟩
theorem op_catQ : OpR X (binaryOp .Add) (rCatQ X.K) := fun pins s σ H x y v u Q I rx ry h => by
  obtain ⟨l, b, xs, zs, rfl, rfl, h1, h2, hz, q⟩ := h
  obtain ⟨i1, n1, r1, e1⟩ := sqQ_obj I h1
  obtain ⟨i2, n2, r2, e2⟩ := sqQ_obj I h2
  cases rx
  cases ry
  have l1 := r1.length
  have l2 := r2.length
  refine PySem.P.add_list e1 e2 ?_ (by simp only [List.size_toArray]; omega)
  rw [show i1.toArray ++ i2.toArray = (i1 ++ i2).toArray by simp]
  exact ⟨.ref _, _, I.lnew (t' := s.toks) (r1.append r2) (by simpa using hz), rfl, q _ I.fresh⟩
def gCatL : PyData → PyData → (List PyData → Prop) → Prop := fun x y P => match x, y with
  | .list ds, .list es => ds.length + es.length ≤ sizeLine ∧ P (ds ++ es)
  | _, _ => False
theorem lift_catL {K : PySem.W.Frag} : Lift2N K (rCatQ K) gCatL := fun S H x y d e P Q sm dx dy hg q => by
  unfold gCatL at hg
  split at hg
  · cases dx with
    | lst s1 a1 =>
      cases dy with
      | lst s2 a2 => exact ⟨_, _, _, _, rfl, rfl, same_sqQ sm s1, same_sqQ sm s2, by rw [a1.len, a2.len]; exact hg.1, fun p n => q p _ _ n hg.2 (a1.append a2)⟩
  · exact hg.elim
theorem en_catL (ha : EV X a ta wa) (hb : EV X b tb wb) : EN X (.BinOp a .Add b pos) (tOp (rCatQ X.K) ta tb) (wOpN gCatL wa wb) := ⟨pe_op op_catQ ha.pe hb.pe, snd_opN lift_catL ha.sd hb.sd⟩
def gCatT : PyData → PyData → (PyData → Prop) → Prop := fun x y P => match x, y with
  | .tuple ds, .tuple es => ds.length + es.length ≤ sizeLine ∧ P (.tuple (ds ++ es))
  | _, _ => False
theorem lift_catT {K : PySem.W.Frag} : Lift2T K (rCatA K) gCatT := fun S H x y d e P Q sm dx dy hg q q2 => by
  unfold gCatT at hg
  split at hg
  · rename_i ds es
    cases dx with
    | tup s1 a1 =>
      cases dy with
      | tup s2 a2 =>
        have h1 := a1.len
        have h2 := a2.len
        refine ⟨_, _, _, _, rfl, rfl, same_sqT sm s1, same_sqT sm s2, by rw [h1, h2]; exact hg.1, fun e => ?_, fun _ e => ?_, fun _ _ p n => q2 p _ _ n hg.2 (a1.append a2)⟩
        · have e' : ds = [] := List.eq_nil_of_length_eq_zero (by rw [← h1, e]; rfl)
          subst e'
          exact q _ _ (by simpa using hg.2) (.tup s2 a2)
        · have e' : es = [] := List.eq_nil_of_length_eq_zero (by rw [← h2, e]; rfl)
          subst e'
          exact q _ _ (by simpa using hg.2) (.tup s1 a1)
  · exact hg.elim
theorem ev_catT (ha : EV X a ta wa) (hb : EV X b tb wb) : EV X (.BinOp a .Add b pos) (tOp (rCatA X.K) ta tb) (wOp gCatT wa wb) := ⟨pe_op op_catA ha.pe hb.pe, snd_opT lift_catT ha.sd hb.sd⟩
/-- a new list times a number -/
theorem en_rep (ha : EN X a ta wn) (hb : EV X b tb wb) : EN X (.BinOp a .Mult b pos) (tOp rRep ta tb) (wRep wn wb) := ⟨pe_op op_rep ha.pe hb.pe, fun F ρ P σ S H Q hw R q =>
  ha.sd F ρ _ σ S H _ hw R fun ds ρ1 p vs S1 H1 h1 R1 s1 B1 d1 => by
    have hold := R1.hold B1
    refine hb.sd _ ρ1 _ σ S1 H1 _ h1 hold fun y ρ2 vy S2 H2 h2 R2 s2 d2 => ?_
    obtain ⟨k, rfl, hk, hz, hp⟩ := h2.out
    cases d2
    obtain ⟨R3, B3⟩ := R2.unhold B1.h0 (same_none R1.s0 B1.s) (fun z => R1.m0 p z B1.h0)
    refine ⟨p, k, vs, rfl, rfl, B3.at_, by omega, by omega, by rw [d1.len]; simpa using hz, fun l n => q _ ρ2 l _ S2 _ hp (R3.lay n _) (s1.trans s2) (R3.bare n) ?_⟩
    have hrep : ∀ m : Nat, DqAll X.K S2 (List.replicate m vs).flatten (List.replicate m ds).flatten := fun m => by
      induction m with
      | zero => exact .nil
      | succ m ih =>
        rw [List.replicate_succ, List.replicate_succ, List.flatten_cons, List.flatten_cons]
        exact (dpAll_mono s2 ds vs d1).append ih
    simpa using hrep k⟩

/-! ### in -/
def rInQ (K : PySem.W.Frag) (neg : Bool) : R2 := fun x y H Q => ∃ d ds tupS, Dp K H x d ∧ Dp K H y (seqOf tupS ds) ∧ SeqAt.shaped d = true ∧ SeqAt.shaped (seqOf tupS ds) = true ∧ Q (.bl (if neg = true then !ds.any fun z => PyData.eqv z d else ds.any fun z => PyData.eqv z d)) H
theorem op_inQ (hu : X.A.units + 65 < cLine) : OpR X (compareOp .In) (rInQ X.K false) := fun pins s σ H x y v u Q I rx ry h => by
  obtain ⟨d, ds, tupS, hd, he, sd, se, q⟩ := h
  obtain ⟨as, r1⟩ := Dp.reads I d x v hd rx
  obtain ⟨bs, r2⟩ := Dp.reads I _ y u he ry
  cases tupS with
  | false => exact SeqAt.in_list_reads r2 r1 (SeqAt.canLay_of_shaped se) (SeqAt.canLay_of_shaped sd) (room_in_shaped sd hu) ⟨.bl _, H, I, rfl, q⟩
  | true => exact SeqAt.in_tuple_reads r2 r1 (SeqAt.canLay_of_shaped se) (SeqAt.canLay_of_shaped sd) (room_in_shaped sd hu) ⟨.bl _, H, I, rfl, q⟩
theorem op_notInQ (hu : X.A.units + 65 < cLine) : OpR X (compareOp .NotIn) (rInQ X.K true) := fun pins s σ H x y v u Q I rx ry h => by
  obtain ⟨d, ds, tupS, hd, he, sd, se, q⟩ := h
  obtain ⟨as, r1⟩ := Dp.reads I d x v hd rx
  obtain ⟨bs, r2⟩ := Dp.reads I _ y u he ry
  cases tupS with
  | false => exact SeqAt.notIn_list_reads r2 r1 (SeqAt.canLay_of_shaped se) (SeqAt.canLay_of_shaped sd) (room_in_shaped sd hu) ⟨.bl _, H, I, rfl, q⟩
  | true => exact SeqAt.notIn_tuple_reads r2 r1 (SeqAt.canLay_of_shaped se) (SeqAt.canLay_of_shaped sd) (room_in_shaped sd hu) ⟨.bl _, H, I, rfl, q⟩
def gIn (neg : Bool) : PyData → PyData → (PyData → Prop) → Prop := fun x y P => ∃ tupS ds, y = seqOf tupS ds ∧ SeqAt.shaped x = true ∧ SeqAt.shaped (seqOf tupS ds) = true ∧ P (.bool (if neg = true then !ds.any fun z => PyData.eqv z x else ds.any fun z => PyData.eqv z x))
theorem lift_in {K : PySem.W.Frag} {neg : Bool} : Lift2 K (rInQ K neg) (gIn neg) := fun S H x y d e P Q sm dx dy hg q => by
  obtain ⟨tupS, ds, rfl, h1, h2, hp⟩ := hg
  exact ⟨d, ds, tupS, (dp_mono sm d x dx).p, (dp_mono sm _ y dy).p, h1, h2, q _ _ hp (.bl _)⟩
theorem ev_in (hu : X.A.units + 65 < cLine) (ha : EV X a ta wa) (hb : EV X b tb wb) (hm : behindInMarks .In b = false := by rfl) : EV X (.Compare a [.In] [b] pos) (tOp (rInQ X.K false) ta tb) (wOp (gIn false) wa wb) := ev_cmpI (op_inQ hu) lift_in ha hb hm
theorem ev_notIn (hu : X.A.units + 65 < cLine) (ha : EV X a ta wa) (hb : EV X b tb wb) (hm : behindInMarks .NotIn b = false := by rfl) : EV X (.Compare a [.NotIn] [b] pos) (tOp (rInQ X.K true) ta tb) (wOp (gIn true) wa wb) := ev_cmpI (op_notInQ hu) lift_in ha hb hm
theorem et_in (hu : X.A.units + 65 < cLine) (ha : EV X a ta wa) (hb : EV X b tb wb) (hm : behindInMarks .In b = false := by rfl) : ET X (.Compare a [.In] [b] pos) (tTest (tOp (rInQ X.K false) ta tb)) (wB (wOp (gIn false) wa wb)) := et_cmp (op_inQ hu) lift_in ha hb hm
theorem et_notIn (hu : X.A.units + 65 < cLine) (ha : EV X a ta wa) (hb : EV X b tb wb) (hm : behindInMarks .NotIn b = false := by rfl) : ET X (.Compare a [.NotIn] [b] pos) (tTest (tOp (rInQ X.K true) ta tb)) (wB (wOp (gIn true) wa wb)) := et_cmp (op_notInQ hu) lift_in ha hb hm

/-! ### slices: a list gives a new list; what it is of may be a slot's own list -/
def wPart (wo : Option W1) : En → (Option Int → En → Prop) → Prop := fun ρ P => match wo with
  | none => P none ρ
  | some w => w ρ fun d ρ1 => match d with
    | .int i => P (some i) ρ1
    | _ => False
/-- a slice's bound -/
structure EO (X : Cx) (e : Option Expr) (t : TO) (wo : Option W1) : Prop where
  po : PO X e t
  sd : ∀ (F : Fm) (ρ : En) (P : Option Int → En → Prop) (σ : L2.St) (S H : Hp) (Q : Option Int → Hp → Prop), wPart wo ρ P → Rep X.K F S H σ ρ → (∀ o ρ' S' H', P o ρ' → Rep X.K F S' H' σ ρ' → Same S S' → Q o H') → t σ H Q
theorem eo_none : EO X none tNoPart none := ⟨po_none, fun F ρ P σ S H Q hw R q => q none ρ S H hw R (Same.refl S)⟩
theorem eo_some (h : EV X e te we) : EO X (some e) (tPart te) (some we) := ⟨po_some h.pe, fun F ρ P σ S H Q hw R q => h.sd F ρ _ σ S H _ hw R fun d ρ' v S' H' hp R' sm hd => by
  split at hp
  · cases hd
    exact ⟨_, rfl, q _ ρ' S' H' hp R' sm⟩
  · exact hp.elim⟩
/-- what a slice is -/
def cutD (ds : List PyData) (lo hi : Option Int) : List PyData := (ds.drop (HT.sIx ds.length 0 lo)).take (HT.sIx ds.length ds.length hi - HT.sIx ds.length 0 lo)
theorem cut_dp {K : PySem.W.Frag} {S : Hp} {vs : List V} {ds : List PyData} {lo hi : Option Int} (h : DqAll K S vs ds) : DqAll K S (cutV vs lo hi) (cutD ds lo hi) := by
  unfold cutV cutD
  rw [h.len]
  exact (h.drop _).take _
def wSliceL (wa : W1) (wl wh : Option W1) : WA := fun ρ P => wa ρ fun d ρ1 => wPart wl ρ1 fun l ρ2 => wPart wh ρ2 fun u ρ3 => asList d fun ds => P (cutD ds l u) ρ3
def wSliceT (wa : W1) (wl wh : Option W1) : W1 := fun ρ P => wa ρ fun d ρ1 => wPart wl ρ1 fun l ρ2 => wPart wh ρ2 fun u ρ3 => asTuple d fun ds => P (.tuple (cutD ds l u)) ρ3
def wRev (wa : W1) : WA := fun ρ P => wa ρ fun d ρ1 => asList d fun ds => P ds.reverse ρ1
variable {lo hi : Option Expr} {tl th : TO} {wl wh : Option W1} {p2 : Pos}
theorem en_slice (ha : EV X a ta wa) (hl : EO X lo tl wl) (hh : EO X hi th wh) : EN X (.Subscript a (.Slice lo hi none p2) pos) (tSl (rSlL X.K) ta tl th) (wSliceL wa wl wh) := ⟨pe_slice sl_list ha.pe hl.po hh.po, fun F ρ P σ S H Q hw R q =>
  ha.sd F ρ _ σ S H _ hw R fun d ρ1 v S1 H1 h1 R1 s1 d1 => hl.sd F ρ1 _ σ S1 H1 _ h1 R1 fun l ρ2 S2 H2 h2 R2 s2 => hh.sd F ρ2 _ σ S2 H2 _ h2 R2 fun u ρ3 S3 H3 h3 R3 s3 => by
    obtain ⟨ds, rfl, hp⟩ := h3.out
    cases d1 with
    | lst sq hd => exact ⟨_, _, rfl, same_sqL (s2.trans (s3.trans R3.sub)) sq, fun p n => q _ ρ3 p _ S3 _ hp (R3.lay n _) (s1.trans (s2.trans s3)) (R3.bare n) (cut_dp (dpAll_mono (s2.trans s3) _ _ hd))⟩⟩
theorem ev_sliceT (ha : EV X a ta wa) (hl : EO X lo tl wl) (hh : EO X hi th wh) : EV X (.Subscript a (.Slice lo hi none p2) pos) (tSl (rSlA X.K) ta tl th) (wSliceT wa wl wh) := ⟨pe_slice sl_tupA ha.pe hl.po hh.po, fun F ρ P σ S H Q hw R q =>
  ha.sd F ρ _ σ S H _ hw R fun d ρ1 v S1 H1 h1 R1 s1 d1 => hl.sd F ρ1 _ σ S1 H1 _ h1 R1 fun l ρ2 S2 H2 h2 R2 s2 => hh.sd F ρ2 _ σ S2 H2 _ h2 R2 fun u ρ3 S3 H3 h3 R3 s3 => by
    obtain ⟨ds, rfl, hp⟩ := h3.out
    cases d1 with
    | @tup ad xs _ sq hd =>
      refine ⟨ad, xs, rfl, same_sqT (s2.trans (s3.trans R3.sub)) sq, fun hw => ?_, fun _ p n => q _ ρ3 _ _ _ hp (R3.new n (.tup _)) (s1.trans (s2.trans (s3.trans (same_new (same_none R3.sub n))))) (.tup (SqT.of upd_same) (dpAll_mono (same_new (same_none R3.sub n)) _ _ (cut_dp (dpAll_mono (s2.trans s3) _ _ hd))))⟩
      have e : cutD ds l u = ds := by
        have hl' := hd.len
        unfold cutD
        rw [← hl', hw.1, hw.2, List.drop_zero, Nat.sub_zero, hl', List.take_length]
      rw [e] at hp
      exact q _ ρ3 _ S3 H3 hp R3 (s1.trans (s2.trans s3)) (.tup (same_sqT (s2.trans s3) sq) (dpAll_mono (s2.trans s3) _ _ hd))⟩
/-- x[::-1] of a list -/
theorem en_rev {k : Nat} {p1 p3 p4 : Pos} (ha : EV X a ta wa) : EN X (.Subscript a (.Slice none none (some (.UnaryOp .USub (.Constant (.int 1) k p1) p3)) p4) pos) (tRevL X.K ta) (wRev wa) := ⟨pe_revL ha.pe, fun F ρ P σ S H Q hw R q =>
  ha.sd F ρ _ σ S H _ hw R fun d ρ1 v S1 H1 h1 R1 s1 d1 => by
    obtain ⟨ds, rfl, hp⟩ := h1.out
    cases d1 with
    | lst sq hd => exact ⟨_, _, rfl, same_sqL R1.sub sq, fun p n => q _ ρ1 p _ S1 _ hp (R1.lay n _) s1 (R1.bare n) hd.reverse⟩⟩

/-! ### repr -/
def rRepr (K : PySem.W.Frag) : List V → Hp → VK → Prop := fun vs H Q => ∃ v d, vs = [v] ∧ Dp K H v d ∧ d.showable = true ∧ d.hasDict = false ∧ d.shown.length ≤ sizeLine ∧ d.depth ≤ 64 ∧ Q (.str d.shown) H
theorem call_repr (hg : X.A.guards = some []) (hu : X.A.units + 66 < cLine) : CallR X (.builtin "repr") (rRepr X.K) := fun pins s σ H vs us Q I r h => by
  obtain ⟨v, d, rfl, hd, h1, h2, h3, h4, q⟩ := h
  obtain ⟨u, rfl, ru⟩ := vals1 r
  obtain ⟨as, rd⟩ := Dp.reads I d v u hd ru
  cases hd with
  | non =>
    cases ru
    exact PySem.P.repr_of_none ⟨.str _, H, I.tok _, ⟨_, rfl⟩, q⟩
  | bl b =>
    cases ru
    exact PySem.P.repr_of_bool ⟨.str _, H, I.tok _, ⟨_, rfl⟩, q⟩
  | int i =>
    obtain ⟨t, rfl⟩ := ru
    exact PySem.P.repr_of_int (by simpa [PyData.showable] using h1) ⟨.str _, H, I.tok _, ⟨_, rfl⟩, q⟩
  | str x =>
    obtain ⟨t, rfl⟩ := ru
    exact PySem.P.repr_of_str ⟨.str _, H, I.tok _, ⟨_, rfl⟩, q⟩ h3
  | lst _ _ =>
    cases ru
    exact repr_of_reads' rd h1 (PyData.noDict_hsm h2) hg (by omega) (fun _ _ e => e) (fun h' t tk hk => ⟨.str _, H, I.kept hk, ⟨_, rfl⟩, q⟩) h3
  | tup _ _ =>
    cases ru
    exact repr_of_reads' rd h1 (PyData.noDict_hsm h2) hg (by omega) (fun _ _ e => e) (fun h' t tk hk => ⟨.str _, H, I.kept hk, ⟨_, rfl⟩, q⟩) h3
/-- what can be shown -/
def Shows (d : PyData) : Prop := d.showable = true ∧ d.hasDict = false ∧ d.shown.length ≤ sizeLine ∧ d.depth ≤ 64
def gRepr : PyData → (PyData → Prop) → Prop := fun d P => Shows d ∧ P (.str d.shown)
theorem lift_repr {K : PySem.W.Frag} : LiftCR K (rRepr K) gRepr := fun H v d P Q dv hg q => ⟨v, d, rfl, dv.p, hg.1.1, hg.1.2.1, hg.1.2.2.1, hg.1.2.2.2, q _ _ hg.2 fun _ => .str _⟩
theorem ev_repr {p : Pos} (hgd : X.A.guards = some []) (hu : X.A.units + 66 < cLine) (hm : X.mg "repr" = none) (ha : ER X e te we) (hg : Gl X "repr" := by rfl) (he : starEach [e] X.env = (false, eval e X.env) :: starEach [] X.env := by rfl) (hpl : (backTo pos (starEach [] X.env)).any (·.1) = false := by rfl) :
    EV X (.Call (.Name "repr" p) [e] [] pos) (tCB (rRepr X.K) (tCons te tNil)) (wFn1 gRepr we) := ev_callBR (call_repr hgd hu) lift_repr hm (by decide +kernel) ha hg (by decide) (by decide) he hpl

/-! ### a comprehension given to a name -/
variable {elt tg it : Expr} {ifs : List Expr} {scope : Scope} {ti : TE} {wi : W1} {g : TG} {ts : List Nat} {wg : WG} {tt : TT} {wt : WT}
theorem sv_setLc (i : Nat) {y : Str} {py spos : Pos} (own : List (Str × Nat)) (hc : X.calm = true) (hN : X.N.Nodup) (hi : EV X it ti wi) (hok : BlkOk X.N X.env.scope scope own)
    (hsw : swapsWith (.ListComp elt [⟨tg, it, ifs, 0⟩] scope pos) (some (.Name y py)) spos.line X.env = pure true)
    (hg : ∀ (s : Shared) (H : Hp) (C : Addr) (cl : List (Str × Addr)) (fp : List Addr), GV (X.blk s H scope (compEnvC scope cl C X.env) fp) tg g ts wg) (ht : ∀ (s : Shared) (H : Hp) (C : Addr) (cl : List (Str × Addr)) (fp : List Addr), ETs (X.blk s H scope (compEnvC scope cl C X.env) fp) ifs tt wt)
    (he : ∀ (s : Shared) (H : Hp) (C : Addr) (cl : List (Str × Addr)) (fp : List Addr), EV (X.blk s H scope (compEnvC scope cl C X.env) fp) elt te we) (hts : ∀ j ∈ ts, j ∈ own.map (·.2)) (hy : X.N[i]? = some y := by rfl) (hyl : X.env.scope.names.lookup y = some .local := by rfl) (hs : ∀ x, foldedSetIterable it X.env x = pure x := by intro _; rfl) :
    SV X (.Assign [.Name y py] (.ListComp elt [⟨tg, it, ifs, 0⟩] scope pos) spos) (tAsg (tLc (iSeq X.K ti) g tt te (own.map (·.2))) (gName i)) (wSetN i (wLc wi wg wt we (own.map (·.2)))) :=
  ⟨ps_setLc hc hN hy hyl hsw (pi_seq hi.pe) hok (fun s H C cl fp => (hg s H C cl fp).pg) (fun s H C cl fp => (ht s H C cl fp).pt) (fun s H C cl fp => (he s H C cl fp).pe) hs, fun F ρ N σ S H D hw R T =>
    (snd_lc hi.sd (fun F ρ P σ S H v d Q => (hg {} (fun _ => none) 0 [] []).sd F ρ P σ S H v d Q) (fun F ρ P σ S H Q => (ht {} (fun _ => none) 0 [] []).sd F ρ P σ S H Q) (fun F ρ P σ S H Q => (he {} (fun _ => none) 0 [] []).sd F ρ P σ S H Q) hts) F ρ _ σ S H _ hw R fun ds ρ' p vs S' H' hp R' sm B hd => T.nx _ _ S' H' hp (R'.setOwn i B.at_ B.s B.h0 B.ap hd) sm⟩
end
/-- a comprehension over range(e) -/
def wLcR (wi : W1) (wg : WG) (wt : WT) (we : W1) (ws : List Nat) : WA := fun ρ P => wi ρ fun d ρ1 => asInt d fun z => -(2 ^ 62) ≤ z ∧ z < 2 ^ 62 ∧ ∃ I : Nat → List PyData → En → Prop, I 0 [] ρ1 ∧
  (∀ (k : Nat) acc ρ2, k < z.toNat → I k acc ρ2 → wTurn wg wt we ws I k (.int k) acc ρ2) ∧ ∀ acc ρ2, I z.toNat acc ρ2 → P acc ρ2
section
variable {X : Cx} {elt tg a : Expr} {ifs : List Expr} {scope : Scope} {pos p rp : Pos} {ti te : TE} {wi we : W1} {g : TG} {ts : List Nat} {wg : WG} {tt : TT} {wt : WT}
theorem en_lcR (own : List (Str × Nat)) (hm : X.mg "range" = none) (hc : X.calm = true) (hN : X.N.Nodup) (hi : EV X a ti wi) (hok : BlkOk X.N X.env.scope scope own)
    (hg : ∀ (s : Shared) (H : Hp) (C : Addr) (cl : List (Str × Addr)) (fp : List Addr), GV (X.blk s H scope (compEnvC scope cl C X.env) fp) tg g ts wg) (ht : ∀ (s : Shared) (H : Hp) (C : Addr) (cl : List (Str × Addr)) (fp : List Addr), ETs (X.blk s H scope (compEnvC scope cl C X.env) fp) ifs tt wt)
    (he : ∀ (s : Shared) (H : Hp) (C : Addr) (cl : List (Str × Addr)) (fp : List Addr), EV (X.blk s H scope (compEnvC scope cl C X.env) fp) elt te we) (hts : ∀ j ∈ ts, j ∈ own.map (·.2)) (hgl : Gl X "range" := by rfl) (hst : starEach [a] X.env = [(false, eval a X.env)] := by rfl) (hs : ∀ x, foldedSetIterable (.Call (.Name "range" p) [a] [] rp) X.env x = pure x := by intro _; rfl) :
    EN X (.ListComp elt [⟨tg, .Call (.Name "range" p) [a] [] rp, ifs, 0⟩] scope pos) (tLc (iRng1 (tCons ti tNil)) g tt te (own.map (·.2))) (wLcR wi wg wt we (own.map (·.2))) :=
  ⟨pe_lc hc hN (pi_range1 hgl hm (pa_cons hi.pe pa_nil hst) hst) hok (fun s H C cl fp => (hg s H C cl fp).pg) (fun s H C cl fp => (ht s H C cl fp).pt) (fun s H C cl fp => (he s H C cl fp).pe) hs, fun F ρ P σ S H Q hw R q =>
    hi.sd F ρ _ σ S H _ hw R fun d ρ1 v S1 H1 h1 R1 s1 d1 => by
      obtain ⟨z, rfl, b1, b2, I, i0, turn, hf⟩ := h1.out
      cases d1
      refine ⟨z, rfl, b1, b2, fun D n => lc_range (lo := 0) (n := z.toNat) (LcAt X.K F S1 σ D I) ⟨S1, ρ1, [], [], R1.lay n _, Same.refl _, R1.bare n, .nil, i0⟩ (fun i H hlt hL => ?_) fun H ⟨S', ρ', acc, us, R', sm, B, da, hI⟩ => q acc ρ' D us S' H (hf acc ρ' hI) R' (s1.trans sm) B da⟩
      rw [show (0 : Int) + (i : Int) = (i : Int) by omega]
      exact lc_turn (fun F ρ P σ S H v d Q => (hg {} (fun _ => none) 0 [] []).sd F ρ P σ S H v d Q) (fun F ρ P σ S H Q => (ht {} (fun _ => none) 0 [] []).sd F ρ P σ S H Q) (fun F ρ P σ S H Q => (he {} (fun _ => none) 0 [] []).sd F ρ P σ S H Q) hts (.int i)
        (fun z => R1.m0 D z (R1.h0 n)) (same_none R1.s0 (same_none R1.sub n)) (fun acc ρ2 hI => turn i acc ρ2 hlt hI) hL⟩
end
end Tr
set_option Elab.async false
set_option linter.all false
set_option maxRecDepth 100000
set_option maxHeartbeats 4000000
namespace K04
open PySem PySem.Spec PyProof.Rows L2 Tr
variable [Tabbed]
def topS (i : Nat) : Stmt := PySem.Challenge.pw_latebound_k04_definitions_given.main.body.getD i (.Pass ⟨0, 0, 0, 0⟩)
abbrev s_gives : Stmt := topS 5
abbrev N_gives : List Str := ["program", "name", "use", "versions"]
theorem sc_gives : FnScope N_gives ["program", "name", "use"] (defScope s_gives) := ⟨rfl, rfl, rfl, by decide +kernel, rfl, by decide +kernel, by decide +kernel⟩
abbrev s_serving : Stmt := topS 6
abbrev N_serving : List Str := ["program", "name", "use", "symbol", "wanted", "_", "defs", "versions", "defined", "version"]
theorem sc_serving : FnScope N_serving ["program", "name", "use"] (defScope s_serving) := ⟨rfl, rfl, rfl, by decide +kernel, rfl, by decide +kernel, by decide +kernel⟩
abbrev s_serves : Stmt := topS 7
abbrev N_serves : List Str := ["version", "wanted"]
theorem sc_serves : FnScope N_serves ["version", "wanted"] (defScope s_serves) := ⟨rfl, rfl, rfl, by decide +kernel, rfl, by decide +kernel, by decide +kernel⟩
abbrev s_lib_named : Stmt := topS 8
abbrev N_lib_named : List Str := ["program", "name", "lib"]
theorem sc_lib_named : FnScope N_lib_named ["program", "name"] (defScope s_lib_named) := ⟨rfl, rfl, rfl, by decide +kernel, rfl, by decide +kernel, by decide +kernel⟩
abbrev s_cell_at : Stmt := topS 10
abbrev N_cell_at : List Str := ["_law_script", "_law_gate"]
theorem sc_cell_at : FnScope N_cell_at ["_law_script", "_law_gate"] (defScope s_cell_at) := ⟨rfl, rfl, rfl, by decide +kernel, rfl, by decide +kernel, by decide +kernel⟩
abbrev s_box : Stmt := topS 11
abbrev N_box : List Str := ["_law_script", "_law_gate", "_law_cell"]
theorem sc_box : FnScope N_box ["_law_script", "_law_gate"] (defScope s_box) := ⟨rfl, rfl, rfl, by decide +kernel, rfl, by decide +kernel, by decide +kernel⟩
abbrev s_take : Stmt := topS 12
abbrev N_take : List Str := ["_law_box_here", "_law_many", "_law_found", "_law_once", "_law_odd", "_law_twice"]
theorem sc_take : FnScope N_take ["_law_box_here", "_law_many"] (defScope s_take) := ⟨rfl, rfl, rfl, by decide +kernel, rfl, by decide +kernel, by decide +kernel⟩
abbrev s_pick : Stmt := topS 13
abbrev N_pick : List Str := ["_law_box_here", "_law_some_here"]
theorem sc_pick : FnScope N_pick ["_law_box_here", "_law_some_here"] (defScope s_pick) := ⟨rfl, rfl, rfl, by decide +kernel, rfl, by decide +kernel, by decide +kernel⟩
abbrev s_same : Stmt := topS 14
abbrev N_same : List Str := ["_law_found", "_law_due_here"]
theorem sc_same : FnScope N_same ["_law_found", "_law_due_here"] (defScope s_same) := ⟨rfl, rfl, rfl, by decide +kernel, rfl, by decide +kernel, by decide +kernel⟩
abbrev s_lists : Stmt := topS 15
abbrev N_lists : List Str := ["_law_matter", "_law_part"]
theorem sc_lists : FnScope N_lists ["_law_matter"] (defScope s_lists) := ⟨rfl, rfl, rfl, by decide +kernel, rfl, by decide +kernel, by decide +kernel⟩
abbrev s_names : Stmt := topS 16
abbrev N_names : List Str := ["_law_box_here", "_law_many", "_law_pool", "_law_found", "_law_time"]
theorem sc_names : FnScope N_names ["_law_box_here", "_law_many"] (defScope s_names) := ⟨rfl, rfl, rfl, by decide +kernel, rfl, by decide +kernel, by decide +kernel⟩
abbrev s_some : Stmt := topS 17
abbrev N_some : List Str := ["_law_box_here", "_law_some_here", "_law_most", "_law_left", "_law_found", "_law_time"]
theorem sc_some : FnScope N_some ["_law_box_here", "_law_some_here", "_law_most"] (defScope s_some) := ⟨rfl, rfl, rfl, by decide +kernel, rfl, by decide +kernel, by decide +kernel⟩
abbrev s_pairs : Stmt := topS 18
abbrev N_pairs : List Str := ["_law_box_here", "_law_most", "_law_found", "_law_time"]
theorem sc_pairs : FnScope N_pairs ["_law_box_here", "_law_most"] (defScope s_pairs) := ⟨rfl, rfl, rfl, by decide +kernel, rfl, by decide +kernel, by decide +kernel⟩
abbrev s_lib : Stmt := topS 19
abbrev N_lib : List Str := ["_law_box_here", "_law_own", "_law_others", "_law_is_main", "_law_needs", "_law_one", "_law_defs", "_law_uses", "_law_pair"]
theorem sc_lib : FnScope N_lib ["_law_box_here", "_law_own", "_law_others", "_law_is_main"] (defScope s_lib) := ⟨rfl, rfl, rfl, by decide +kernel, rfl, by decide +kernel, by decide +kernel⟩
abbrev s_program : Stmt := topS 20
abbrev N_program : List Str := ["_law_box_here", "_law_most", "_law_gates", "_law_folk", "_law_others", "_law_libs", "_law_own", "_law_doors", "_law_time", "_law_door", "_law_early"]
theorem sc_program : FnScope N_program ["_law_box_here", "_law_most", "_law_gates"] (defScope s_program) := ⟨rfl, rfl, rfl, by decide +kernel, rfl, by decide +kernel, by decide +kernel⟩
abbrev s_refused : Stmt := topS 21
abbrev N_refused : List Str := ["_law_plot", "_law_own", "_law_caught", "error"]
theorem sc_refused : FnScope N_refused ["_law_plot", "_law_own"] (defScope s_refused) := ⟨rfl, rfl, rfl, by decide +kernel, rfl, by decide +kernel, by decide +kernel⟩
abbrev s_due : Stmt := topS 22
abbrev N_due : List Str := ["_law_lib_here", "_law_want", "_law_found", "_law_symbol", "_law_version"]
theorem sc_due : FnScope N_due ["_law_lib_here", "_law_want"] (defScope s_due) := ⟨rfl, rfl, rfl, by decide +kernel, rfl, by decide +kernel, by decide +kernel⟩
abbrev s_length_right : Stmt := topS 23
abbrev N_length_right : List Str := ["_law_plot", "_law_told", "_law_version"]
theorem sc_length_right : FnScope N_length_right [] (defScope s_length_right) := ⟨rfl, rfl, rfl, by decide +kernel, rfl, by decide +kernel, by decide +kernel⟩
abbrev s_right : Stmt := topS 24
abbrev N_right : List Str := ["_law_box_here", "_law_turn", "_law_plot", "_law_soft", "_law_lib_here", "_law_symbol", "_law_version", "_law_want", "_law_due_here", "_law_told"]
theorem sc_right : FnScope N_right ["_law_box_here"] (defScope s_right) := ⟨rfl, rfl, rfl, by decide +kernel, rfl, by decide +kernel, by decide +kernel⟩
abbrev s_law : Stmt := topS 25
abbrev N_law : List Str := ["_law_script", "_law_gate", "_law_box_here", "_law_time"]
theorem sc_law : FnScope N_law ["_law_script"] (defScope s_law) := ⟨rfl, rfl, rfl, by decide +kernel, rfl, by decide +kernel, by decide +kernel⟩
/-- where the defs stand behind the top -/
structure Top (K : PySem.W.Frag) (mg : Str → Option Value) where
  a_gives : Addr
  d_gives : FuncData
  F_gives : Fun K "gives" "gives" s_gives a_gives d_gives
  B_gives : Binds K d_gives ["program", "name", "use"] []
  m_gives : mg "gives" = some (.ref a_gives)
  a_serving : Addr
  d_serving : FuncData
  F_serving : Fun K "serving" "serving" s_serving a_serving d_serving
  B_serving : Binds K d_serving ["program", "name", "use"] []
  m_serving : mg "serving" = some (.ref a_serving)
  a_serves : Addr
  d_serves : FuncData
  F_serves : Fun K "serves" "serves" s_serves a_serves d_serves
  B_serves : Binds K d_serves ["version", "wanted"] []
  m_serves : mg "serves" = some (.ref a_serves)
  a_lib_named : Addr
  d_lib_named : FuncData
  F_lib_named : Fun K "lib_named" "lib_named" s_lib_named a_lib_named d_lib_named
  B_lib_named : Binds K d_lib_named ["program", "name"] []
  m_lib_named : mg "lib_named" = some (.ref a_lib_named)
  a_cell_at : Addr
  d_cell_at : FuncData
  F_cell_at : Fun K "_law_cell_at" "_law_cell_at" s_cell_at a_cell_at d_cell_at
  B_cell_at : Binds K d_cell_at ["_law_script", "_law_gate"] []
  m_cell_at : mg "_law_cell_at" = some (.ref a_cell_at)
  a_box : Addr
  d_box : FuncData
  F_box : Fun K "_law_box" "_law_box" s_box a_box d_box
  B_box : Binds K d_box ["_law_script", "_law_gate"] []
  m_box : mg "_law_box" = some (.ref a_box)
  a_take : Addr
  d_take : FuncData
  F_take : Fun K "_law_take" "_law_take" s_take a_take d_take
  B_take : Binds K d_take ["_law_box_here", "_law_many"] []
  m_take : mg "_law_take" = some (.ref a_take)
  a_pick : Addr
  d_pick : FuncData
  F_pick : Fun K "_law_pick" "_law_pick" s_pick a_pick d_pick
  B_pick : Binds K d_pick ["_law_box_here", "_law_some_here"] []
  m_pick : mg "_law_pick" = some (.ref a_pick)
  a_same : Addr
  d_same : FuncData
  F_same : Fun K "_law_same" "_law_same" s_same a_same d_same
  B_same : Binds K d_same ["_law_found", "_law_due_here"] []
  m_same : mg "_law_same" = some (.ref a_same)
  a_lists : Addr
  d_lists : FuncData
  F_lists : Fun K "_law_lists" "_law_lists" s_lists a_lists d_lists
  B_lists : Binds K d_lists ["_law_matter"] []
  m_lists : mg "_law_lists" = some (.ref a_lists)
  a_names : Addr
  d_names : FuncData
  F_names : Fun K "_law_names" "_law_names" s_names a_names d_names
  B_names : Binds K d_names ["_law_box_here", "_law_many"] []
  m_names : mg "_law_names" = some (.ref a_names)
  a_some : Addr
  d_some : FuncData
  F_some : Fun K "_law_some" "_law_some" s_some a_some d_some
  B_some : Binds K d_some ["_law_box_here", "_law_some_here", "_law_most"] []
  m_some : mg "_law_some" = some (.ref a_some)
  a_pairs : Addr
  d_pairs : FuncData
  F_pairs : Fun K "_law_pairs" "_law_pairs" s_pairs a_pairs d_pairs
  B_pairs : Binds K d_pairs ["_law_box_here", "_law_most"] []
  m_pairs : mg "_law_pairs" = some (.ref a_pairs)
  a_lib : Addr
  d_lib : FuncData
  F_lib : Fun K "_law_lib" "_law_lib" s_lib a_lib d_lib
  B_lib : Binds K d_lib ["_law_box_here", "_law_own", "_law_others", "_law_is_main"] []
  m_lib : mg "_law_lib" = some (.ref a_lib)
  a_program : Addr
  d_program : FuncData
  F_program : Fun K "_law_program" "_law_program" s_program a_program d_program
  B_program : Binds K d_program ["_law_box_here", "_law_most", "_law_gates"] []
  m_program : mg "_law_program" = some (.ref a_program)
  a_refused : Addr
  d_refused : FuncData
  F_refused : Fun K "_law_refused" "_law_refused" s_refused a_refused d_refused
  B_refused : Binds K d_refused ["_law_plot", "_law_own"] []
  m_refused : mg "_law_refused" = some (.ref a_refused)
  a_due : Addr
  d_due : FuncData
  F_due : Fun K "_law_due" "_law_due" s_due a_due d_due
  B_due : Binds K d_due ["_law_lib_here", "_law_want"] []
  m_due : mg "_law_due" = some (.ref a_due)
  a_length_right : Addr
  d_length_right : FuncData
  F_length_right : Fun K "_law_length_right" "_law_length_right" s_length_right a_length_right d_length_right
  B_length_right : Binds K d_length_right [] []
  m_length_right : mg "_law_length_right" = some (.ref a_length_right)
  a_right : Addr
  d_right : FuncData
  F_right : Fun K "_law_right" "_law_right" s_right a_right d_right
  B_right : Binds K d_right ["_law_box_here"] []
  m_right : mg "_law_right" = some (.ref a_right)
  a_law : Addr
  d_law : FuncData
  F_law : Fun K "law" "law" s_law a_law d_law
  B_law : Binds K d_law ["_law_script"] []
  m_law : mg "law" = some (.ref a_law)
  b_abs : mg "abs" = none
  b_all : mg "all" = none
  b_bool : mg "bool" = none
  b_int : mg "int" = none
  b_isinstance : mg "isinstance" = none
  b_len : mg "len" = none
  b_list : mg "list" = none
  b_min : mg "min" = none
  b_range : mg "range" = none
  b_repr : mg "repr" = none
  b_set : mg "set" = none
  b_sorted : mg "sorted" = none
  b_str : mg "str" = none
  b_tuple : mg "tuple" = none
  cS : Addr
  PS : Addr
  cd_serving : d_serving.code = .ref cS
  hd : ∀ h : Heap, K.In h → PySem.W.CodeHd h cS PS
  tab : (PS, fun _ _ => ("serving" ++ ".<locals>." ++ "<lambda>" : Str)) ∈ Tabbed.T
  one : ∀ p ∈ Tabbed.T, p.1 = PS → p.2 = fun _ _ => ("serving" ++ ".<locals>." ++ "<lambda>" : Str)
end K04
set_option Elab.async false
set_option linter.all false
set_option maxRecDepth 100000
set_option maxHeartbeats 4000000
namespace K04
open PySem PySem.Spec PyProof.Rows L2 Tr
variable [Tabbed]
local macro_rules | `(tactic| walk_at "tr") => `(tactic| simp only [Tr.Later, wRet, wRetN, wExpr, wAsg, wSet, wSetN, wPar, wParV0, wParN0, wAugI, wgNil, wgCons, wCall, wCall0, wCallM, wCallN, wIxO, wFn, wFn1, wFnN, wTuple1, wAppend, wPopAt, wSetO, wNeO, wIsN, wTup, wLst, wYes, wRep, wSliceL, wSliceT, wRev, ownAt, asInt, asNat, asList, asTuple, someOf, at0, at1, at2, at3, wIf, wB, wOp, wOpN, wName, wLook, wN, wC, wAnd, wOr, wNot, wAndV, wOrV, wNotV, wSeq, wNext, wIfS, wNil, wCons, wPart, wgSeq, gvName, wTurn, wipeE, gI, gI0, gEq, gNe, gLen, gIx, gInt, gAbs, gMin2, gList, gTup1, gAll, gCatL, gCatT, isNone, startE, startM, List.map_cons, List.map_nil, List.length_cons, List.length_nil, List.cons_append, List.nil_append, List.getElem?_cons_zero, List.getElem?_cons_succ, List.set_cons_zero, List.set_cons_succ, List.replicate, List.length_map, if_true, if_false, Bool.false_eq_true, reduceIte, List.mem_cons, List.not_mem_nil, or_false, forall_eq, forall_eq_or_imp, false_implies, implies_true, true_and, and_true, Option.bind_some, Option.map_some, Option.map_none, Int.reduceLT, Int.reduceLE, Int.reduceToNat, Int.toNat_zero, Int.toNat_one, Int.toNat_natCast, Nat.reduceAdd, Nat.reduceLT, decide_true, List.set, Int.add_zero, Int.zero_add])
/-- a box of draws, n times asked at the most -/
def BoxOk (n : Nat) (cs : List PyData) : Prop := ∃ a b c : Int, cs = [.int a, .int b, .int c] ∧ 0 ≤ a ∧ 0 ≤ b ∧ b < 4611686018427387904 ∧ 0 ≤ c ∧ c ≤ n
theorem BoxOk.mono {n m : Nat} {cs : List PyData} (h : BoxOk n cs) (l : n ≤ m) : BoxOk m cs := by
  obtain ⟨a, b, c, e, h1, h2, h3, h4, h5⟩ := h
  exact ⟨a, b, c, e, h1, h2, h3, h4, by omega⟩
theorem fmod_nat (z : Int) {m : Nat} (h : 0 < m) : ∃ r : Nat, z.fmod m = r ∧ r < m := by
  have h1 : 0 ≤ z.fmod m := Int.fmod_nonneg_of_pos z (by omega)
  have h2 : z.fmod m < m := Int.fmod_lt_of_pos z (by omega)
  exact ⟨(z.fmod m).toNat, by omega, by omega⟩
theorem fmod_bd (z : Int) (m : Int) (h : 0 < m) : 0 ≤ z.fmod m ∧ z.fmod m < m := ⟨Int.fmod_nonneg_of_pos z h, Int.fmod_lt_of_pos z h⟩
theorem fdiv_nn (z : Int) (m : Int) (hz : 0 ≤ z) (h : 0 < m) : 0 ≤ z.fdiv m := by
  rw [Int.fdiv_eq_ediv_of_nonneg z (by omega)]
  exact Int.ediv_nonneg hz (by omega)
section
variable {P : Program} {w : World} {K : PySem.W.Frag} {mg : Str → Option Value} {base : Heap}
def tCell : TSp := fun ds Q => ∃ (ns : List Int) (g : Nat), ds = [.list (ns.map .int), .int g] ∧ Q (.int (ns.getD g 0))
theorem ok_cell_at (T : Top K mg) : FnOk P w K mg base (L2.CX P w) 1 T.a_cell_at T.d_cell_at ["_law_script", "_law_gate"] (spV K 2 tCell) := by
  refine fn_pure T.F_cell_at sc_cell_at rfl fun c A o s H E hr => ⟨_, _, (svs_one (sv_ret (ev_if (et_lt (ev_name 1) (ev_len T.b_len (er_name 0))) (ev_ix (ev_name 0) (ev_name 1)) ev_int))), fun ds P' hl hT => ?_⟩
  obtain ⟨ns, g, rfl, q⟩ := hT
  walk_at "tr"
  split
  · rename_i h
    have h' : g < ns.length := by simpa using h
    rw [show atI (ns.map PyData.int) (g : Int) = some (.int (ns.getD g 0)) from atI_nat (by simp [h'])]
    exact q
  · rename_i h
    have h' : ¬ g < ns.length := by simpa using h
    rw [show ns.getD g 0 = 0 by simp [List.getD_eq_getElem?_getD, List.getElem?_eq_none (Nat.le_of_not_lt h')]] at q
    exact q
def tTake : TSm := fun cs ds Q => ∃ (n many : Nat), BoxOk n cs ∧ n < 1000000 ∧ ds = [.int many] ∧ 0 < many ∧ many < 1073741824 ∧ ∀ (r : Nat) cs', r < many → BoxOk (n + 1) cs' → Q (.int r) cs'
theorem ok_take (T : Top K mg) : FnOk P w K mg base (L2.CX P w) 1 T.a_take T.d_take ["_law_box_here", "_law_many"] (spM K 1 tTake) := by
  refine fn_mut T.F_take sc_take rfl fun c A o s H E hr => ?_
  have nd := sc_take.nd
  refine ⟨_, _, (svs_cons (sv_if (et_gt (ev_ixO 0 ev_int) ev_int) (svs_cons (sv_set 2 nd (ev_mod (ev_int1 T.b_int (ea_cons (ev_ixO 0 ev_int) ea_nil)) (ev_name 1)))
      (svs_cons (sv_setO 0 (ev_fdiv (ev_ixO 0 ev_int) (ev_name 1)) ev_int (pg_sub (pe_var rfl (by first | exact Or.inl rfl | exact Or.inr (Or.inl rfl))) (ev_int).pe set_list))
      (svs_one (sv_ret (ev_name 2))))) svs_nil)
      (svs_cons (sv_setO 0 (ev_add (ev_ixO 0 ev_int) ev_int) ev_int (pg_sub (pe_var rfl (by first | exact Or.inl rfl | exact Or.inr (Or.inl rfl))) (ev_int).pe set_list))
      (svs_cons (sv_set 3 nd (ev_mod (ev_int1 T.b_int (ea_cons (ev_mul (ev_add (ev_ixO 0 ev_int) (ev_mul ev_int (ev_ixO 0 ev_int))) (ev_add ev_int (ev_ixO 0 ev_int))) ea_nil)) ev_int))
      (svs_cons (sv_set 4 nd (ev_add (ev_mod (ev_int1 T.b_int (ea_cons (ev_name 3) ea_nil)) ev_int) ev_int))
      (svs_cons (sv_set 5 nd (ev_mod (ev_int1 T.b_int (ea_cons (ev_mul (ev_add (ev_add (ev_name 3) (ev_ixO 0 ev_int)) (ev_fdiv (ev_ixO 0 ev_int) ev_int)) (ev_name 4)) ea_nil)) ev_int))
      (svs_one (sv_ret (ev_mod (ev_int1 T.b_int (ea_cons (ev_fdiv (ev_mod (ev_int1 T.b_int (ea_cons (ev_add (ev_mul (ev_name 5) ev_int) (ev_name 3)) ea_nil)) ev_int) ev_int) ea_nil)) (ev_name 1))))))))), fun cs ds P' hl hT => ?_⟩
  obtain ⟨n, many, ⟨a, b, c, rfl, ha, hb, hb2, hc, hcn⟩, hn, rfl, hm, hm2, q⟩ := hT
  walk_at "tr"
  have hm0 : (many : Int) ≠ 0 := by omega
  have hd : CDivN a (many : Int) := ⟨hm0, by omega⟩
  split
  · obtain ⟨r, e, hr2⟩ := fmod_nat a hm
    refine ⟨hm0, hd, ?_⟩
    rw [e]
    exact q r _ hr2 ⟨_, _, _, rfl, fdiv_nn a many ha (by omega), hb, hb2, hc, by omega⟩
  · generalize hx : ((b + 52021 * (c + 1)) * (38039 + (c + 1))).fmod 2147483647 = x
    have bx := fmod_bd ((b + 52021 * (c + 1)) * (38039 + (c + 1))) 2147483647 (by decide)
    rw [hx] at bx
    generalize hy : x.fmod 40009 = y
    have by' := fmod_bd x 40009 (by decide)
    rw [hy] at by'
    generalize b.fdiv 1000003 = b1
    generalize hz : ((x + (c + 1) + b1) * (y + 11)).fmod 2147483629 = z
    have bz := fmod_bd ((x + (c + 1) + b1) * (y + 11)) 2147483629 (by decide)
    rw [hz] at bz
    obtain ⟨r, e, hr2⟩ := fmod_nat (((z * 52021 + x).fmod 2147483587).fdiv 64) hm
    rw [e]
    refine ⟨.inl ⟨by decide, by decide⟩, .inr ⟨by omega, by omega⟩, by decide, by decide, ⟨by decide, by decide⟩, .inr ⟨by omega, by omega⟩, by decide, .inr ⟨by decide, by decide⟩, by decide, ⟨by decide, by decide⟩, hm0, ?_⟩
    exact q r _ hr2 ⟨_, _, _, rfl, ha, hb, hb2, by omega, by omega⟩
/-- one of them -/
def tPick : TSm := fun cs ds Q => ∃ (n : Nat) (xs : List PyData) (b : Bool), BoxOk n cs ∧ n < 1000000 ∧ ds = [seqOf b xs] ∧ 0 < xs.length ∧ xs.length < 1073741824 ∧ ∀ x cs', x ∈ xs → BoxOk (n + 1) cs' → Q x cs'
theorem ok_pick (T : Top K mg) : FnOk P w K mg base (L2.CX P w) 2 T.a_pick T.d_pick ["_law_box_here", "_law_some_here"] (spM K 1 tPick) := by
  refine fn_mut T.F_pick sc_pick rfl fun c A o s H E hr => ?_
  have nd := sc_pick.nd
  refine ⟨_, _, (svs_one (sv_ret (ev_ix (ev_name 1) (ev_callM 0 (ok_take T) (hr.mono (by decide)) T.m_take T.F_take.kp T.B_take (ea_cons (ev_len T.b_len (er_name 1)) ea_nil))))), fun cs ds P' hl hT => ?_⟩
  obtain ⟨n, xs, b, hB, hn, rfl, h0, h1, q⟩ := hT
  have fin : ∀ (r : Nat) cs', r < xs.length → BoxOk (n + 1) cs' → someOf (atI xs (r : Int)) fun z => P' z cs' := fun r cs' hr hB' => by
    rw [show atI xs (r : Int) = some xs[r] from atI_nat (List.getElem?_eq_getElem hr)]
    exact q _ cs' (List.getElem_mem hr) hB'
  cases b with
  | false =>
    walk_at "tr"
    simp only [seqOf, Bool.false_eq_true, if_false]
    exact ⟨n, xs.length, hB, hn, rfl, h0, h1, fun r cs' hr hB' => fin r cs' hr hB'⟩
  | true =>
    walk_at "tr"
    simp only [seqOf, if_true]
    exact ⟨n, xs.length, hB, hn, rfl, h0, h1, fun r cs' hr hB' => fin r cs' hr hB'⟩
/-- a new box -/
def tBox : TSn := fun ds Q => ∃ (ns : List Int) (g : Nat), ds = [.list (ns.map .int), .int g] ∧ g < 100 ∧ ∀ cs, BoxOk 0 cs → Q cs
theorem ok_box (T : Top K mg) : FnOk P w K mg base (L2.CX P w) 2 T.a_box T.d_box ["_law_script", "_law_gate"] (spN K 2 tBox) := by
  refine fn_new T.F_box sc_box rfl fun c A o s H E hr => ?_
  have nd := sc_box.nd
  refine ⟨_, _, (svs_cons (sv_set 2 nd (ev_call (ok_cell_at T) (hr.mono (by decide)) T.m_cell_at T.F_cell_at.kp T.B_cell_at (ea_cons (ev_name 0) (ea_cons (ev_name 1) ea_nil))))
      (svs_one (sv_retN (en_lst (ea_cons (ev_mul (ev_abs T.b_abs (ea_cons (ev_name 2) ea_nil)) (ev_int1 T.b_int (ea_cons (ev_ge (ev_abs T.b_abs (ea_cons (ev_name 2) ea_nil)) (ev_pow ev_int ev_int)) ea_nil))) (ea_cons (ev_add (ev_add (ev_mod (ev_int1 T.b_int (ea_cons (ev_name 2) ea_nil)) ev_int) (ev_mul ev_int (ev_name 1))) ev_int) (ea_cons ev_int ea_nil))))))), fun ds P' hl hT => ?_⟩
  obtain ⟨ns, g, rfl, hg, q⟩ := hT
  walk_at "tr"
  refine ⟨ns, g, rfl, ?_⟩
  generalize ns.getD g 0 = z
  have b1 : ∀ (p : Bool), 0 ≤ (if p = true then (1 : Int) else 0) ∧ (if p = true then (1 : Int) else 0) ≤ 1 := fun p => by cases p <;> decide
  have bx := fmod_bd z 2305843009213693951 (by decide)
  have bz : 0 ≤ (if z < 0 then -z else z) := by split <;> omega
  refine ⟨⟨by decide, by decide, by decide⟩, .inr ⟨?_, ?_⟩, by decide, .inl ⟨by decide, by decide⟩, by decide, ?_⟩
  · have := (b1 (decide (10 ^ 18 ≤ if z < 0 then -z else z))).1
    omega
  · have := (b1 (decide (10 ^ 18 ≤ if z < 0 then -z else z))).2
    omega
  · exact q _ ⟨_, _, _, rfl, Int.mul_nonneg bz (b1 _).1, by omega, by omega, by omega, by omega⟩
end
end K04
set_option Elab.async false
set_option linter.all false
set_option maxRecDepth 100000
set_option maxHeartbeats 2000000
/-! Tr8: trees: what can be compared, what is equal, how they are shown -/
namespace Tr
open PySem PySem.Spec PyProof.Rows L2
variable [Tabbed]
/-- of at most this depth, and comparable -/
def Good (n : Nat) (d : PyData) : Prop := d.canLay0 = true ∧ d.depth ≤ n
theorem Good.shaped {n : Nat} {d : PyData} (h : Good n d) (hn : n ≤ 64) : SeqAt.shaped d = true := by
  unfold SeqAt.shaped
  rw [h.1, Bool.true_and]
  exact decide_eq_true (Nat.le_trans h.2 hn)
theorem Good.mono {n m : Nat} {d : PyData} (h : Good n d) (l : n ≤ m) : Good m d := ⟨h.1, Nat.le_trans h.2 l⟩
theorem good_none {n : Nat} : Good n .none := ⟨rfl, Nat.zero_le _⟩
theorem good_bool {n : Nat} (b : Bool) : Good n (.bool b) := ⟨rfl, Nat.zero_le _⟩
theorem good_int {n : Nat} (i : Int) : Good n (.int i) := ⟨rfl, Nat.zero_le _⟩
theorem good_str {n : Nat} {x : Str} (h : PyData.strOk x = true) : Good n (.str x) := ⟨by simpa [PyData.canLay0] using h, Nat.zero_le _⟩
theorem good_all {n : Nat} : ∀ {ds : List PyData}, (∀ d ∈ ds, Good n d) → PyData.canLayAll0 ds = true ∧ PyData.depthAll ds ≤ n
  | [], _ => ⟨rfl, Nat.zero_le _⟩
  | d :: ds, h => by
    have h1 := h d List.mem_cons_self
    have h2 := good_all fun e he => h e (List.mem_cons_of_mem _ he)
    refine ⟨?_, ?_⟩
    · rw [PyData.canLayAll0, h1.1, h2.1] <;> rfl
    · rw [PyData.depthAll]
      exact Nat.max_le.mpr ⟨h1.2, h2.2⟩
theorem good_list {n : Nat} {ds : List PyData} (h : ∀ d ∈ ds, Good n d) : Good (n + 1) (.list ds) := by
  have h2 := good_all h
  exact ⟨by rw [PyData.canLay0]; exact h2.1, by rw [PyData.depth]; exact Nat.succ_le_succ h2.2⟩
theorem good_tuple {n : Nat} {ds : List PyData} (h : ∀ d ∈ ds, Good n d) : Good (n + 1) (.tuple ds) := by
  have h2 := good_all h
  exact ⟨by rw [PyData.canLay0]; exact h2.1, by rw [PyData.depth]; exact Nat.succ_le_succ h2.2⟩
theorem Good.eqv {n : Nat} {d : PyData} (h : Good n d) : PyData.eqv d d = true := SeqAt.eqv_refl d h.1
theorem eqv_str (x y : Str) : PyData.eqv (.str x) (.str y) = decide (x = y) := by
  rw [PyData.eqv, Bool.eq_iff_iff]
  simp
theorem eqv_int (x y : Int) : PyData.eqv (.int x) (.int y) = decide (x = y) := by
  rw [PyData.eqv, Bool.eq_iff_iff]
  simp
theorem eqv_bool (x y : Bool) : PyData.eqv (.bool x) (.bool y) = decide (x = y) := by
  rw [PyData.eqv, Bool.eq_iff_iff]
  simp
theorem eqv_tuple (xs ys : List PyData) : PyData.eqv (.tuple xs) (.tuple ys) = PyData.eqvAll xs ys := by rw [PyData.eqv]
theorem eqv_list (xs ys : List PyData) : PyData.eqv (.list xs) (.list ys) = PyData.eqvAll xs ys := by rw [PyData.eqv]
theorem eqvAll_nil : PyData.eqvAll [] [] = true := by rw [PyData.eqvAll]
theorem eqvAll_cons (x y : PyData) (xs ys : List PyData) : PyData.eqvAll (x :: xs) (y :: ys) = (PyData.eqv x y && PyData.eqvAll xs ys) := by rw [PyData.eqvAll]
theorem eqvAll_nc (y : PyData) (ys : List PyData) : PyData.eqvAll [] (y :: ys) = false := by simp [PyData.eqvAll]
theorem eqvAll_cn (y : PyData) (ys : List PyData) : PyData.eqvAll (y :: ys) [] = false := by simp [PyData.eqvAll]
end Tr
namespace Tr
open PySem PySem.Spec PyProof.Rows L2
/-! ### sorted(set(..)) of pairs of texts (few) -/
def duoD (p : Str × Str) : PyData := .tuple [.str p.1, .str p.2]
def StrLt (x y : Str) : Prop := x.cps.toList < y.cps.toList
def PairLt (p q : Str × Str) : Prop := StrLt p.1 q.1 ∨ (p.1 = q.1 ∧ StrLt p.2 q.2)
def gSortedSet : PyData → (List PyData → Prop) → Prop := fun d P => ∃ ps : List (Str × Str), d = .list (ps.map duoD) ∧ ps.length < 64 ∧ (∀ p ∈ ps, PyData.strOk p.1 = true ∧ PyData.strOk p.2 = true) ∧ ∀ qs : List (Str × Str), qs.Pairwise PairLt → (∀ p, p ∈ qs ↔ p ∈ ps) → qs.length ≤ ps.length → P (qs.map duoD)
end Tr
set_option Elab.async false
set_option linter.all false
set_option maxRecDepth 100000
set_option maxHeartbeats 4000000
namespace K04
open PySem PySem.Spec PyProof.Rows L2 Tr
variable [Tabbed]
local macro_rules | `(tactic| walk_at "tr") => `(tactic| simp only [Tr.Later, wRet, wRetN, wExpr, wAsg, wSet, wSetN, wPar, wParV0, wParN0, wAugI, wgNil, wgCons, wCall, wCall0, wCallM, wCallN, wIxO, wFn, wFn1, wFnN, wTuple1, wAppend, wPopAt, wSetO, wNeO, wIsN, wTup, wLst, wYes, wRep, wSliceL, wSliceT, wRev, ownAt, asInt, asNat, asList, asTuple, someOf, at0, at1, at2, at3, wIf, wB, wOp, wOpN, wName, wLook, wN, wC, wAnd, wOr, wNot, wAndV, wOrV, wNotV, wSeq, wNext, wIfS, wNil, wCons, wPart, wgSeq, gvName, wTurn, wipeE, gI, gI0, gEq, gNe, gLen, gIx, gInt, gAbs, gMin2, gList, gTup1, gAll, gCatL, gCatT, isNone, startE, startM, List.map_cons, List.map_nil, List.length_cons, List.length_nil, List.cons_append, List.nil_append, List.getElem?_cons_zero, List.getElem?_cons_succ, List.set_cons_zero, List.set_cons_succ, List.replicate, List.length_map, if_true, if_false, Bool.false_eq_true, reduceIte, List.mem_cons, List.not_mem_nil, or_false, forall_eq, forall_eq_or_imp, false_implies, implies_true, true_and, and_true, Option.bind_some, Option.map_some, Option.map_none, Int.reduceLT, Int.reduceLE, Int.reduceToNat, Int.toNat_zero, Int.toNat_one, Int.toNat_natCast, Nat.reduceAdd, Nat.reduceLT, decide_true, List.set, Int.add_zero, Int.zero_add])
theorem map_erase {α β : Type} (f : α → β) : ∀ (l : List α) (i : Nat), (l.map f).eraseIdx i = (l.eraseIdx i).map f
  | [], i => by simp
  | x :: l, 0 => rfl
  | x :: l, i + 1 => by
    show f x :: (l.map f).eraseIdx i = _
    rw [map_erase f l i] <;> rfl
/-- every text that is met -/
def words : List Str := ["pa", "b", "ring", "cxx", "deep", "a", "zlib", "open", "q", "local", "global", "f", "g", "h", "none", "", "c", "aa", "cc", "d", "zz", "main", "x", "nobody"]
def pool : List Str := ["pa", "b", "ring", "cxx", "deep", "a", "zlib", "open", "q", "local"]
theorem pool_len : pool.length = 10 := rfl
theorem pool_nd : pool.Nodup := by decide +kernel
section
variable {P : Program} {w : World} {K : PySem.W.Frag} {mg : Str → Option Value} {base : Heap}
theorem perm_erase {α : Type} : ∀ (l : List α) (i : Nat) (x : α), l[i]? = some x → (x :: l.eraseIdx i).Perm l
  | [], i, x, h => by simp at h
  | y :: l, 0, x, h => by
    simp at h
    subst h
    exact List.Perm.refl _
  | y :: l, i + 1, x, h => by
    have ih := perm_erase l i x (by simpa using h)
    exact (List.Perm.swap y x _).trans (ih.cons y)
/-- so many different names of the pool -/
def tNames : TSm := fun cs ds Q => ∃ (n many : Nat), BoxOk n cs ∧ n < 900000 ∧ ds = [.int many] ∧ many ≤ 10 ∧ ∀ (xs : List Str) cs', xs.length = many → xs.Nodup → (∀ x ∈ xs, x ∈ pool) → BoxOk (n + 10) cs' → Q (.list (xs.map .str)) cs'
theorem ok_names (T : Top K mg) : FnOk P w K mg base (L2.CX P w) 2 T.a_names T.d_names ["_law_box_here", "_law_many"] (spM K 1 tNames) := by
  refine fn_mut T.F_names sc_names rfl fun c A o s H E hr => ?_
  have nd := sc_names.nd
  refine ⟨_, _, (svs_cons (sv_parN0 2 3 rfl nd (en_lst (ea_cons ev_str (ea_cons ev_str (ea_cons ev_str (ea_cons ev_str (ea_cons ev_str (ea_cons ev_str (ea_cons ev_str (ea_cons ev_str (ea_cons ev_str (ea_cons ev_str ea_nil))))))))))))
      (svs_cons (sv_forR T.b_range (ev_name 1) (gv_name 4 nd) (svs_one (sv_append 3 (ev_popAt 2 (ev_callM 0 (ok_take T) (hr.mono (by decide)) T.m_take T.F_take.kp T.B_take (ea_cons (ev_len T.b_len (er_name 2)) ea_nil))))) PassesOwn.never rfl)
      (svs_one (sv_ret (ev_name 3))))), fun cs ds P' hl hT => ?_⟩
  obtain ⟨n, many, hB, hn, rfl, hm, q⟩ := hT
  walk_at "tr"
  refine ⟨by decide, ?_⟩
  unfold wForR
  walk_at "tr"
  refine ⟨by omega, by omega, fun k ρ => ∃ cs' left xs t, ρ = [.own true cs', .val (.int many), .own false (left.map .str), .own false (xs.map .str), t] ∧ (xs ++ left).Perm pool ∧ xs.length = k ∧ BoxOk (n + k) cs', ⟨cs, pool, [], .un, rfl, List.Perm.refl _, rfl, hB⟩, fun k ρ hk hI => ?_, fun ρ hI => ?_⟩
  · obtain ⟨cs', left, xs, t, rfl, hp, hx, hB'⟩ := hI
    have hlen := hp.length_eq
    rw [List.length_append, pool_len] at hlen
    walk_at "tr"
    refine ⟨n + k, left.length, hB', by omega, rfl, by omega, by omega, fun r cs2 hr hB2 => ⟨by omega, by omega, ?_⟩⟩
    have hr' : left[r]? = some left[r] := List.getElem?_eq_getElem hr
    simp only [Int.toNat_natCast]
    rw [List.getElem?_map, hr']
    walk_at "tr"
    refine ⟨by rw [sizeLine_eq]; omega, cs2, left.eraseIdx r, xs ++ [left[r]], .val (.int k), ?_, ?_, by simp [hx], hB2.mono (by omega)⟩
    · simp [map_erase]
    · rw [List.append_assoc]
      exact (List.Perm.append_left xs (perm_erase left r _ hr')).trans hp
  · obtain ⟨cs', left, xs, t, rfl, hp, hx, hB'⟩ := hI
    walk_at "tr"
    have nd2 := (hp.nodup_iff.mpr pool_nd)
    exact q xs cs' (by simpa using hx) (List.nodup_append.mp nd2).1 (fun x hx => hp.mem_iff.mp (List.mem_append_left _ hx)) (hB'.mono (by simp at *; omega))
theorem pool_ok : ∀ x ∈ pool, PyData.strOk x = true ∧ x.length ≤ 8 ∧ x ∈ words := by decide +kernel
/-- up to so many of some texts -/
def tSome : TSm := fun cs ds Q => ∃ (n most : Nat) (xs : List Str) (b : Bool), BoxOk n cs ∧ n < 900000 ∧ ds = [seqOf b (xs.map .str), .int most] ∧ most ≤ 8 ∧ xs.length ≤ 100 ∧ (∀ x ∈ xs, PyData.strOk x = true) ∧
  ∀ (ys : List Str) cs', ys.length ≤ most → (∀ y ∈ ys, y ∈ xs) → BoxOk (n + 10) cs' → Q (.list (ys.map .str)) cs'
theorem ok_some (T : Top K mg) : FnOk P w K mg base (L2.CX P w) 2 T.a_some T.d_some ["_law_box_here", "_law_some_here", "_law_most"] (spM K 2 tSome) := by
  refine fn_mut T.F_some sc_some rfl fun c A o s H E hr => ?_
  have nd := sc_some.nd
  have hu := hr.units
  refine ⟨_, _, (svs_cons (sv_parN0 3 4 rfl nd (en_list T.b_list (ea_cons (ev_name 1) ea_nil)))
      (svs_cons (sv_forR T.b_range (ev_callM 0 (ok_take T) (hr.mono (by decide)) T.m_take T.F_take.kp T.B_take (ea_cons (ev_add (ev_name 2) ev_int) ea_nil)) (gv_name 5 nd) (svs_one (sv_if (et_neO hu 3 (en_lst ea_nil).ev) (svs_one (sv_append 4 (ev_popAt 3 (ev_callM 0 (ok_take T) (hr.mono (by decide)) T.m_take T.F_take.kp T.B_take (ea_cons (ev_len T.b_len (er_name 3)) ea_nil))))) svs_nil)) PassesOwn.never rfl)
      (svs_one (sv_ret (ev_name 4))))), fun cs ds P' hl hT => ?_⟩
  obtain ⟨n, most, xs, b, hB, hn, rfl, hm, hxl, hok, q⟩ := hT
  have key : ∀ z : PyData, (z = .list (xs.map .str) ∨ z = .tuple (xs.map .str)) → gList [z] fun es => es = xs.map PyData.str := by
    rintro z (rfl | rfl) <;> rfl
  cases b
  all_goals
    walk_at "tr"
    unfold wForR
    walk_at "tr"
    refine ⟨n, most + 1, hB, by omega, by simp, by omega, by omega, fun many cs1 hmany hB1 => ⟨by omega, by omega, fun k ρ => ∃ cs' left ys t t0, ρ = [.own true cs', t0, .val (.int most), .own false (left.map .str), .own false (ys.map .str), t] ∧ (∀ y ∈ left, y ∈ xs) ∧ (∀ y ∈ ys, y ∈ xs) ∧ left.length ≤ 100 ∧ ys.length ≤ k ∧ BoxOk (n + 1 + k) cs', ⟨cs1, xs, [], .un, _, rfl, fun _ h => h, (by simp), hxl, Nat.le_refl _, hB1⟩, fun k ρ hk hI => ?_, fun ρ hI => ?_⟩⟩
    · obtain ⟨cs', left, ys, t, t0, rfl, h1, h2, h3, h4, hB'⟩ := hI
      walk_at "tr"
      have g1 : Good 1 (.list (left.map PyData.str)) := good_list fun d hd => by
        obtain ⟨x, hx, rfl⟩ := List.mem_map.mp hd
        exact good_str (hok x (h1 x hx))
      refine ⟨by decide, g1.shaped (by decide), (good_list (n := 0) (ds := []) fun d hd => (by simp at hd)).shaped (by decide), ?_⟩
      cases left with
      | nil =>
        rw [show (!PyData.eqv (.list ([].map PyData.str)) (.list [])) = false by simp [eqv_list, eqvAll_nil]]
        walk_at "tr"
        exact ⟨cs', [], ys, _, _, rfl, h1, h2, h3, by omega, hB'.mono (by omega)⟩
      | cons x0 left =>
        rw [show (!PyData.eqv (.list ((x0 :: left).map PyData.str)) (.list [])) = true by simp [eqv_list, eqvAll_cn]]
        generalize hlf : x0 :: left = lf at *
        have hpos : 0 < lf.length := by rw [← hlf]; simp
        walk_at "tr"
        refine ⟨n + 1 + k, lf.length, hB', by omega, rfl, hpos, by omega, fun r cs2 hr hB2 => ⟨by omega, by omega, ?_⟩⟩
        have hr' : lf[r]? = some lf[r] := List.getElem?_eq_getElem hr
        simp only [Int.toNat_natCast]
        rw [List.getElem?_map, hr']
        walk_at "tr"
        refine ⟨by rw [sizeLine_eq]; omega, cs2, lf.eraseIdx r, ys ++ [lf[r]], .val (.int k), t0, ?_, fun y hy => h1 y (List.mem_of_mem_eraseIdx hy), fun y hy => ?_, ?_, by simp; omega, hB2.mono (by omega)⟩
        · simp [map_erase]
        · rcases List.mem_append.mp hy with hy | hy
          · exact h2 y hy
          · rw [List.mem_singleton.mp hy]
            exact h1 _ (List.getElem_mem hr)
        · have := List.length_eraseIdx_le lf r
          omega
    · obtain ⟨cs', left, ys, t, t0, rfl, h1, h2, h3, h4, hB'⟩ := hI
      walk_at "tr"
      exact q ys cs' (by simp at h4; omega) h2 (hB'.mono (by simp at *; omega))
end
end K04
set_option Elab.async false
set_option linter.all false
set_option maxRecDepth 100000
set_option maxHeartbeats 2000000
/-! TrS: sets of tuples of texts, fewer than 64 of them; sorted(set(..)) -/
namespace Tr
open PySem PySem.Spec PyProof.Rows L2
variable [Tabbed]
section
variable {P : Program} {w : World} {A : Around} {E : Value → Shared → Prop} {s : Shared}
/-- b is the tuple of the texts k -/
abbrev IsX (P : Program) (w : World) (h : Heap) (k : List Str) (b : Addr) : Prop :=
  IsTupleKey (PySem.strKind P w) h k b
abbrev hX (P : Program) (w : World) (k : List Str) : Int :=
  tupleKeyHash (PySem.strKind P w) k
abbrev Ent := Addr × List Str
theorem texts_in {k : List Str} {us : List Value}
    (h : PySem.ItemsAre (PySem.strKind P w) k us) :
    ∀ u ∈ us, ∃ x t, u = Value.str x t := by
  induction h with
  | nil => exact fun u hu => nomatch hu
  | cons h1 _ ih =>
    intro u hu
    rcases List.mem_cons.mp hu with e | hu
    · obtain ⟨t, e2⟩ := Value.isStrOf_shape h1
      exact ⟨_, t, e.trans e2⟩
    · exact ih u hu
theorem quiet_str (n : Nat) (x : Str) (t : Tok) :
    ofAClassStatement n (.str x t) = pure false := by
  cases n <;> rfl
theorem quietX {k : List Str} {b : Addr} {Q : Bool → Shared → Prop}
    (hk : IsX P w s.heap k b) (q : Q false s) :
    wpAny (model P w) A (ofAClassStatement 8 (.ref b)) Q E s := by
  have ty := hk.typeIs
  obtain ⟨o, its, n, ho, hc, hd, hi⟩ := hk
  unfold ofAClassStatement
  refine wpAny_bind (wpAny_typeOf ty ?_)
  simp only [beq_self_eq_true, if_true]
  refine wpAny_bind (wpAny_pure ?_)
  simp only [Bool.not_true, Bool.false_eq_true, if_false]
  refine wpAny_bind (wpAny_seqItems ho hd ?_)
  dsimp only
  refine wpAny_bind ?_
  rw [← Array.forIn_toList]
  refine wpAny_forIn_list _ (fun l r s1 => (r.1 = none ∧ s1 = s) ∧ ∀ u ∈ l, ∃ x t, u = Value.str x t) _
    ?_ ?_ _ _ ⟨⟨rfl, rfl⟩, texts_in hi⟩
  · rintro u l r s1 ⟨⟨e1, rfl⟩, al⟩
    obtain ⟨x, t, rfl⟩ := al u List.mem_cons_self
    rw [quiet_str]
    refine wpAny_bind (wpAny_pure ?_)
    simp only [Bool.false_eq_true, if_false]
    exact wpAny_pure ⟨⟨rfl, rfl⟩, fun y hy => al y (List.mem_cons_of_mem _ hy)⟩
  · rintro ⟨r1, r2⟩ s1 ⟨⟨e1, rfl⟩, _⟩
    cases e1
    exact wpAny_pure q
/-- whatever it says: the set may be plain no more -/
theorem byX {k : List Str} {b : Addr} {Q : Bool → Shared → Prop}
    (hk : IsX P w s.heap k b) (q : ∀ v, Q v s) :
    wpAny (model P w) A (hashByValue 8 (.ref b)) Q E s := by
  have ty := hk.typeIs
  obtain ⟨o, its, n, ho, hc, hd, hi⟩ := hk
  unfold hashByValue
  refine wpAny_bind (wpAny_specialOf ty F.slot_tuple_hash.lookup ?_)
  refine wpAny_bind (wpAny_seqItems ho hd ?_)
  refine wpAny_bind ?_
  simp only [Option.getD_some]
  rw [← Array.forIn_toList]
  refine wpAny_forIn_list _ (fun l r s1 => (s1 = s ∧ r.1 = none) ∧ ∀ u ∈ l, ∃ x t, u = Value.str x t) _
    ?_ ?_ _ _ ⟨⟨rfl, rfl⟩, texts_in hi⟩
  · rintro u l r s1 ⟨⟨rfl, e1⟩, al⟩
    obtain ⟨x, t, rfl⟩ := al u List.mem_cons_self
    refine wpAny_bind (m := pure false) (wpAny_pure ?_)
    simp only [Bool.not_false, if_true]
    exact wpAny_pure (wpAny_pure (q false))
  · rintro ⟨r1, r2⟩ s1 ⟨⟨rfl, e1⟩, _⟩
    cases e1
    exact wpAny_pure (q true)
theorem unseenX {k : List Str} {b : Addr} {ys : List Value} {Q : Bool → Shared → Prop}
    (hk : IsX P w s.heap k b) (hy : ∀ y ∈ ys, ∃ k' c, y = Value.ref c ∧ IsX P w s.heap k' c) (q : Q false s) :
    wpAny (model P w) A (searchCouldBeSeen (.ref b) ys) Q E s := by
  unfold searchCouldBeSeen
  refine wpAny_bind ?_
  refine wpAny_forIn_list _ (fun l r s1 => (r.1 = none ∧ s1 = s) ∧ ∀ y ∈ l, ∃ k' c, y = Value.ref c ∧ IsX P w s.heap k' c) _
    ?_ ?_ _ _ ⟨⟨rfl, rfl⟩, hy⟩
  · rintro y l r s1 ⟨⟨e1, rfl⟩, al⟩
    obtain ⟨k2, c, rfl, hc⟩ := al y List.mem_cons_self
    have al' : ∀ y ∈ l, ∃ k' c, y = Value.ref c ∧ IsX P w s1.heap k' c := fun u hu => al u (List.mem_cons_of_mem _ hu)
    dsimp only
    by_cases he : (b == c || (carriedByValue (.ref b) && carriedByValue (.ref c))) = true
    · exact wp_if_pos he (wpAny_pure ⟨⟨rfl, rfl⟩, al'⟩)
    · refine wp_if_neg he ?_
      refine wpAny_bind (wpAny_eqIsQuiet_tuple hk ?_)
      simp only [Bool.not_true, Bool.false_eq_true, if_false]
      refine wpAny_bind (wpAny_eqIsQuiet_tuple hc ?_)
      simp only [Bool.not_true, Bool.false_eq_true, if_false]
      refine wpAny_bind (quietX hk ?_)
      simp only [Bool.false_eq_true, if_false]
      refine wpAny_bind (quietX hc ?_)
      simp only [Bool.false_eq_true, if_false]
      exact wpAny_pure ⟨⟨rfl, rfl⟩, al'⟩
  · rintro ⟨r1, r2⟩ s1 ⟨⟨e1, rfl⟩, _⟩
    cases e1
    exact wpAny_pure q

/-! ### the set -/
def rowX (P : Program) (w : World) (q : Ent) : Int × Value := (hX P w q.2, Value.ref q.1)
structure SetX (P : Program) (w : World) (h : Heap) (a : Addr) (L : List Ent) (es : Array (Int × Value)) (ep : Nat) (t : SetTable) : Prop where
  obj : ∃ o : Obj, h.get? a = some o ∧ o.ExactSet ∧ o.data = .set es ep t
  row : es.toList = L.map (rowX P w)
  tab : TabOk t (L.map fun q => hX P w q.2)
  one : (L.map Prod.snd).Nodup
  key : ∀ q ∈ L, IsX P w h q.2 q.1
  way : w.params.followText "set-order" = true ∨ t.led = true
  room : L.length * 5 < t.mask * 3
  few : L.length < 64
variable {a : Addr} {L : List Ent} {es : Array (Int × Value)} {ep : Nat} {t : SetTable}
theorem SetX.sz (R : SetX P w s.heap a L es ep t) : es.size = L.length := by
  rw [← Array.length_toList, R.row, List.length_map]
theorem SetX.pl (R : SetX P w s.heap a L es ep t) : t.place.size = L.length := by
  rw [R.tab.sz, List.length_map]
theorem SetX.fit (R : SetX P w s.heap a L es ep t) : t.fits es.size = true := by
  have h1 := R.pl
  have h2 := R.sz
  have h3 := R.few
  have h4 := R.room
  simp only [SetTable.fits, SetTable.fill, R.tab.dm, Bool.and_eq_true, beq_iff_eq, decide_eq_true_eq]
  refine ⟨by omega, ?_⟩
  show t.place.size + 0 ≤ t.mask
  omega
theorem SetX.nth (R : SetX P w s.heap a L es ep t) {i : Nat} {q : Ent} (e : L[i]? = some q) : es[i]? = some (rowX P w q) := by
  rw [← Array.getElem?_toList, R.row, List.getElem?_map, e] <;> rfl
theorem SetX.kept (R : SetX P w s.heap a L es ep t) : ¬ t.gaveWay = true := by
  unfold SetTable.gaveWay
  rw [mask_odd R.tab.mok]
  decide
/-- the probe at the c-th step of the way -/
def stepX (m : Nat) (h : Int) (c : Nat) : SetTable.Probe := L2.nth m (runAt m (SetTable.bits h % (m + 1)) (SetTable.bits h)) c
theorem stepX_j (m : Nat) (h : Int) (c : Nat) : (stepX m h c).j = L2.way m h c := rfl
theorem stepX_add (m : Nat) (h : Int) (c n : Nat) : L2.nth m (stepX m h c) n = stepX m h (c + n) := (nth_add m c _ n).symm
theorem adv_dummy (m : Nat) (p : SetTable.Probe) : (adv m p).dummy = p.dummy := by
  unfold adv
  split <;> rfl
theorem nth_dummy (m : Nat) : ∀ (n : Nat) (p : SetTable.Probe), (L2.nth m p n).dummy = p.dummy
  | 0, p => rfl
  | n + 1, p => (nth_dummy m n (adv m p)).trans (adv_dummy m p)
theorem walkX (R : SetX P w s.heap a L es ep t) {x : Addr} {k : List Str} (hx : IsX P w s.heap k x) (hu : A.units < cLine) {N : Nat} (lim : N < 10 * SetTable.turns t.mask)
    (e0 : L2.way t.mask (hX P w k) N ∉ t.place.toList) (e1 : ∀ c, c < N → L2.way t.mask (hX P w k) c ∈ t.place.toList) {Q : SetFound → Shared → Prop}
    (yes : k ∈ L.map Prod.snd → Q (.there none) s) (no : k ∉ L.map Prod.snd → Q (.free (L2.way t.mask (hX P w k) N) false) s) (f : Nat) :
    ∀ (c : Nat) (st : Option SetTable.Probe), st.getD (t.probeStart (hX P w k)) = stepX t.mask (hX P w k) c → c ≤ N → N < c + f →
      (∀ (i : Nat) (q : Ent), L[i]? = some q → q.2 = k → ∃ d, c ≤ d ∧ d < N ∧ t.place.toList[i]? = some (L2.way t.mask (hX P w k) d)) →
      wpAny (model P w) A (setSearchFrom a (.ref x) (hX P w k) true f st) Q E s := by
  induction f with
  | zero => intro c st _ h1 h2; omega
  | succ f ih =>
    intro c st hst hc hf hre
    obtain ⟨o, ho, hex, hd⟩ := R.obj
    rw [setSearchFrom_succ]
    refine wpAny_bind (wpAny_setState_of ho hd R.fit ?_)
    dsimp only
    refine wp_if_neg R.kept ?_
    try refine wpAny_bind (wpAny_pure ?_)
    have at_ : ∀ n, (L2.nth t.mask (stepX t.mask (hX P w k) c) n).j = L2.way t.mask (hX P w k) (c + n) := fun n => by rw [stepX_add]; rfl
    have row_h : ∀ (i : Nat) (q : Ent), L[i]? = some q → (es[i]?.map (·.1)).getD 0 = hX P w q.2 := fun i q e => by
      rw [R.nth e] <;> rfl
    have sp := go_spec t R.tab.ris R.tab.dm (fun i => (es[i]?.map (·.1)).getD 0) (hX P w k) (10 * SetTable.turns t.mask) (N - c) (stepX t.mask (hX P w k) c) (nth_dummy _ _ _) (by omega)
      (fun n hn => by rw [at_]; exact e1 _ (by omega)) (by rw [at_, show c + (N - c) = N by omega]; exact e0)
    have pr : t.probe (fun i => (es[i]?.map (·.1)).getD 0) (hX P w k) (st.getD (t.probeStart (hX P w k))) = SetTable.probe.go t (fun i => (es[i]?.map (·.1)).getD 0) (hX P w k) (10 * SetTable.turns t.mask) (stepX t.mask (hX P w k) c) := by
      rw [hst] <;> rfl
    rcases sp with ⟨n, i, hn, hi, hh, hno, hgo⟩ | ⟨hno, hgo⟩
    · rw [pr, hgo]
      dsimp only
      rw [at_] at hi ⊢
      have hil : i < L.length := by
        have := (List.getElem?_eq_some_iff.mp hi).1
        have h2 := R.pl
        rw [Array.length_toList] at this
        omega
      obtain ⟨q, hq⟩ : ∃ q, L[i]? = some q := ⟨_, List.getElem?_eq_getElem hil⟩
      have mq : q ∈ L := List.mem_of_getElem? hq
      have go_on : wpAny (model P w) A (searchRest a (.ref x) (hX P w k) true f es t (L2.way t.mask (hX P w k) (c + n)) i (L2.nth t.mask (stepX t.mask (hX P w k) c) (n + 1))) Q E s := by
        unfold searchRest
        rw [R.nth hq]
        dsimp only [rowX]
        refine wpAny_bind (wpAny_holding (wpAny_eqBool_tuple hu (R.key q mq) hx ?_))
        refine wpAny_bind (wpAny_setState_of ho hd R.fit ?_)
        dsimp only
        by_cases ek : q.2 = k
        · refine wp_if_pos (by simp [ek]) (wpAny_pure (yes ?_))
          exact ek ▸ List.mem_map_of_mem mq
        · refine wp_if_neg (by simp [ek]) ?_
          try refine wpAny_bind (wpAny_pure ?_)
          rw [sameMem]
          have live := slot_live R.tab.ris hi
          simp only [if_true, live, R.nth hq, rowX]
          refine wpAny_bind (wpAny_isSame_ref_self (wpAny_bind (wpAny_pure ?_)))
          simp only [if_true]
          refine wp_if_neg (by simp [ek]) (ih (c + (n + 1)) _ ?_ (by omega) (by omega) fun j r hj hr => ?_)
          · rw [stepX_add]; rfl
          · obtain ⟨d, d1, d2, d3⟩ := hre j r hj hr
            refine ⟨d, ?_, d2, d3⟩
            rcases Nat.lt_trichotomy d (c + n) with z | z | z
            · refine absurd ((row_h j r hj).trans (by rw [hr])) (hno (d - c) j (by omega) ?_)
              rw [at_, show c + (d - c) = d by omega]
              exact d3
            · rw [z] at d3
              have l2 := slot_live R.tab.ris d3
              rw [live] at l2
              injection l2 with l2
              subst l2
              rw [hq] at hj
              cases hj
              exact absurd hr ek
            · omega
      by_cases hl : t.led = true
      · refine wp_if_neg (by simp [hl]) ?_
        try refine wpAny_bind (wpAny_pure ?_)
        exact go_on
      · refine wp_if_pos (by simp [hl]) ?_
        refine wpAny_bind (unseenX hx (fun y hy => ?_) ?_)
        · obtain ⟨e, he, rfl⟩ := List.mem_map.mp hy
          have he1 : e ∈ es.toList := by
            have := (Array.mem_filter.mp (Array.mem_def.mpr he)).1
            exact Array.mem_def.mp this
          rw [R.row] at he1
          obtain ⟨q2, mq2, rfl⟩ := List.mem_map.mp he1
          exact ⟨q2.2, q2.1, rfl, R.key q2 mq2⟩
        · refine wp_if_neg (by decide) ?_
          try refine wpAny_bind (wpAny_pure ?_)
          exact go_on
    · rw [pr, hgo]
      dsimp only
      rw [at_, show c + (N - c) = N by omega]
      refine wpAny_pure (no fun hm => ?_)
      obtain ⟨q, mq, ek⟩ := List.mem_map.mp hm
      obtain ⟨i, hi⟩ := List.mem_iff_getElem?.mp mq
      obtain ⟨d, d1, d2, d3⟩ := hre i q hi ek
      refine hno (d - c) i (by omega) ?_ ((row_h i q hi).trans (by rw [ek]))
      rw [at_, show c + (d - c) = d by omega]
      exact d3
theorem findX (R : SetX P w s.heap a L es ep t) {x : Addr} {k : List Str} (hx : IsX P w s.heap k x) (hu : A.units < cLine) {Q : SetFound → Shared → Prop}
    (yes : k ∈ L.map Prod.snd → Q (.there none) s)
    (no : ∀ N, k ∉ L.map Prod.snd → L2.way t.mask (hX P w k) N ∉ t.place.toList → (∀ c, c < N → L2.way t.mask (hX P w k) c ∈ t.place.toList) → Q (.free (L2.way t.mask (hX P w k) N) false) s) :
    wpAny (model P w) A (setSearch a (.ref x) (hX P w k) true) Q E s := by
  obtain ⟨N, lim, e0, e1⟩ := R.tab.first (by rw [List.length_map]; have := R.room; omega) (hX P w k)
  have no' := no N
  unfold setSearch
  have big : 10 * SetTable.turns t.mask ≤ 100000 := by
    rcases R.tab.mok with e | e | e <;> rw [e] <;> decide
  refine walkX R hx hu lim e0 e1 yes (fun hn => no' hn e0 e1) 100000 0 none ?_ (Nat.zero_le _) (by omega) fun i q hq ek => ?_
  · show t.probeStart _ = _
    rw [start_run] <;> rfl
  · have hi : (L.map fun q => hX P w q.2)[i]? = some (hX P w k) := by rw [List.getElem?_map, hq, ← ek] <;> rfl
    have hl : i < t.place.toList.length := by
      have h1 := (List.getElem?_eq_some_iff.mp hq).1
      have h2 := R.pl
      rw [Array.length_toList]
      omega
    obtain ⟨c, c1, c2⟩ := R.tab.before (K := N) e0 hi (List.getElem?_eq_getElem hl)
    exact ⟨c, Nat.zero_le _, c1, by rw [List.getElem?_eq_getElem hl, c2]⟩

/-! ### a tuple comes in -/
theorem IsX.past {h h' : Heap} {k : List Str} {a b : Addr} {o : Obj} {es : Array (Int × Value)} {ep : Nat} {t : SetTable} (hb : IsX P w h k b) (ho : h.get? a = some o) (hd : o.data = .set es ep t) (sb : Heap.SameBut a h h') : IsX P w h' k b := by
  obtain ⟨o2, its, n, h1, h2, h3, h4⟩ := hb
  have ne : b ≠ a := fun e => by
    rw [e, ho] at h1
    cases h1
    rw [hd] at h3
    cases h3
  exact ⟨o2, its, n, (sb.2 b ne).trans h1, h2, h3, h4⟩
theorem IsX.up {h h' : Heap} {k : List Str} {b : Addr} (hb : IsX P w h k b) (up : ∀ c u, h.get? c = some u → h'.get? c = some u) : IsX P w h' k b := by
  obtain ⟨o2, its, n, h1, r⟩ := hb
  exact ⟨o2, its, n, up b o2 h1, r⟩
theorem cut_perm {α : Type} (L : List α) (p : Nat) (y : α) : (L.take p ++ y :: L.drop p).Perm (y :: L) :=
  List.perm_middle.trans (by rw [List.take_append_drop])
def markX (bv : Bool) (t : SetTable) : SetTable := if bv = true then t else { t with plain := false }
theorem markX_facts (bv : Bool) {t : SetTable} {hs : List Int} (T : TabOk t hs) : TabOk (markX bv t) hs ∧ (markX bv t).mask = t.mask ∧ (markX bv t).led = t.led ∧ (markX bv t).fill = t.fill := by
  cases bv
  · exact ⟨⟨T.ris, T.dm, T.sz, T.mok, T.bd, T.reach⟩, rfl, rfl, rfl⟩
  · exact ⟨T, rfl, rfl, rfl⟩
/-- what a table's order makes of the entries -/
theorem order_ents (L : List Ent) (es : Array (Int × Value)) (order : Array Nat) (hr : es.toList = L.map (rowX P w)) (hp : order.toList.Perm (List.range L.length)) :
    ∃ Lo : List Ent, (order.filterMap (es[·]?)).toList = Lo.map (rowX P w) ∧ Lo.Perm L ∧ (Lo.map fun q => hX P w q.2) = order.toList.map fun i => (es.map (·.1)).getD i 0 := by
  have hsz : es.size = L.length := by rw [← Array.length_toList, hr, List.length_map]
  have ent : ∀ i (h : i < L.length), es[i]? = some (rowX P w L[i]) := fun i h => by
    rw [← Array.getElem?_toList, hr, List.getElem?_map, List.getElem?_eq_getElem h] <;> rfl
  have key : ∀ l : List Nat, (∀ i ∈ l, i < L.length) → ∃ Lo : List Ent, l.filterMap (fun i => es[i]?) = Lo.map (rowX P w) ∧ Lo = l.filterMap (fun i => L[i]?) ∧ (Lo.map fun q => hX P w q.2) = l.map fun i => (es.map (·.1)).getD i 0 := by
    intro l
    induction l with
    | nil => exact fun _ => ⟨[], rfl, rfl, rfl⟩
    | cons i l ih =>
      intro hl
      have hi := hl i (.head _)
      obtain ⟨Lo, e1, e2, e3⟩ := ih fun j hj => hl j (.tail _ hj)
      have e5 : (es.map (·.1))[i]? = some (hX P w (L[i]).2) := by rw [Array.getElem?_map, ent i hi] <;> rfl
      refine ⟨L[i] :: Lo, ?_, ?_, ?_⟩
      · rw [List.filterMap_cons_some (ent i hi), e1] <;> rfl
      · rw [List.filterMap_cons_some (List.getElem?_eq_getElem hi), e2]
      · rw [List.map_cons, List.map_cons, e3]
        have e4 : (es.map (·.1)).getD i 0 = hX P w (L[i]).2 := by simp [Array.getD_eq_getD_getElem?, e5]
        rw [e4]
  obtain ⟨Lo, e1, e2, e3⟩ := key order.toList fun i hi => List.mem_range.mp (hp.mem_iff.mp hi)
  refine ⟨Lo, by first | (rw [Array.toList_filterMap]; exact e1) | simpa using e1, ?_, e3⟩
  have all : ∀ n, n ≤ L.length → (List.range n).filterMap (fun i => L[i]?) = L.take n := by
    intro n
    induction n with
    | zero => exact fun _ => rfl
    | succ n ih =>
      intro hn
      have hlt : n < L.length := hn
      rw [List.range_succ, List.filterMap_append, ih (Nat.le_of_lt hlt), List.take_succ, List.getElem?_eq_getElem hlt, List.filterMap_cons_some (List.getElem?_eq_getElem hlt)] <;> rfl
  have h1 : Lo.Perm ((List.range L.length).filterMap fun i => L[i]?) := e2 ▸ hp.filterMap _
  rwa [all L.length (Nat.le_refl _), List.take_length] at h1
/-- the table is laid anew, larger -/
theorem relayX {o : Obj} (ho : s.heap.get? a = some o) (hex : o.ExactSet) (hd : o.data = .set es ep t) (row : es.toList = L.map (rowX P w)) (hsz : t.place.size = (L.map fun q => hX P w q.2).length) (hdm : t.dummies = #[]) (hfl : es.size ≤ t.mask)
    (one : (L.map Prod.snd).Nodup) (key : ∀ q ∈ L, IsX P w s.heap q.2 q.1) (way : w.params.followText "set-order" = true ∨ t.led = true) (few : L.length < 64) {wanted M : Nat}
    (hw : SetTable.sizeAbove wanted - 1 = M) (hM : MaskOk M) (hw2 : SetTable.sizeAbove wanted ≤ 128) (hn : L.length * 5 < M * 3) {Q : Unit → Shared → Prop}
    (fin : ∀ h' L' es' ep' t', Heap.SameBut a s.heap h' → SetX P w h' a L' es' ep' t' → L'.Perm L → Q () { s with heap := h' }) : wpAny (model P w) A (setRelay a wanted) Q E s := by
  have hsl : es.size = L.length := by rw [← Array.length_toList, row, List.length_map]
  rw [List.length_map] at hsz
  have fits : t.fits es.size = true := by
    simp only [SetTable.fits, SetTable.fill, hdm, Bool.and_eq_true, beq_iff_eq, decide_eq_true_eq]
    refine ⟨by omega, ?_⟩
    show t.place.size + 0 ≤ t.mask
    omega
  obtain ⟨t', order, e, hp, T, em, el, _, _⟩ := relaid_ok t (hs := es.map (·.1)) (wanted := wanted) hw hM (by rw [Array.size_map, hsl]; omega)
  rw [Array.size_map, hsl] at hp
  obtain ⟨Lo, r1, r2, r3⟩ := order_ents L es order row hp
  rw [← r3] at T
  have hs2 : (order.filterMap (es[·]?)).size = es.size := by rw [← Array.length_toList, r1, List.length_map, r2.length_eq, hsl]
  rw [setRelay_eq]
  refine wpAny_bind (wpAny_setState_of ho hd fits ?_)
  dsimp only
  refine wp_if_neg (by rw [sizeLine_eq]; omega) ?_
  try refine wpAny_bind (wpAny_pure ?_)
  rw [e]
  dsimp only
  refine wpAny_bind ?_
  refine wp_if_neg (by rw [hs2]; simp) ?_
  try refine wpAny_bind (wpAny_pure ?_)
  refine wpAny_pure ?_
  dsimp only
  refine wpAny_storeSet_of ho hd ?_ (by rw [hs2, hsl, sizeLine_eq]; omega)
  have sb : Heap.SameBut a s.heap (s.heap.update a (Obj.putSet (order.filterMap (es[·]?)) t')) := Heap.SameBut.update ..
  refine fin _ Lo (order.filterMap (es[·]?)) (ep + 1) t' sb ⟨⟨_, store_at ho hd, ⟨hex.1, hex.2.1, hex.2.2⟩, rfl⟩, r1, T, (r2.map Prod.snd).nodup_iff.mpr one, fun q hq => (key q (r2.mem_iff.mp hq)).past ho hd sb, by rw [el]; exact way, ?_, by rw [r2.length_eq]; exact few⟩ r2
  rw [r2.length_eq, em]
  exact hn
theorem addX (R : SetX P w s.heap a L es ep t) {x : Addr} {k : List Str} (hx : IsX P w s.heap k x) (hu : A.units < cLine) (h3 : L.length + 1 < 64) {Q : Bool → Shared → Prop}
    (old : k ∈ L.map Prod.snd → Q false s)
    (new : k ∉ L.map Prod.snd → ∀ h1 L1 es1 ep1 t1, Heap.SameBut a s.heap h1 → SetX P w h1 a L1 es1 ep1 t1 → L1.Perm ((x, k) :: L) → Q true { s with heap := h1 }) :
    wpAny (model P w) A (setAddHashed a (.ref x) (hX P w k)) Q E s := by
  obtain ⟨o, ho, hex, hd⟩ := R.obj
  have hsz := R.sz
  unfold setAddHashed
  refine wpAny_holding ?_
  rw [show 100000 = 99999 + 1 from rfl, setAddHashedIn_succ]
  refine wpAny_bind (wpAny_setState_of ho hd R.fit ?_)
  dsimp only
  refine wp_if_neg (by simp [byScan, Value.scannable]) ?_
  try refine wpAny_bind (wpAny_pure ?_)
  refine wpAny_bind (findX R hx hu (fun hm => wpAny_pure (old hm)) fun N hm e0 e1 => ?_)
  dsimp only
  refine wpAny_bind (wpAny_setState_of ho hd R.fit ?_)
  dsimp only
  obtain ⟨q1, q2, q3, q4, q5, q6, q7, q8, q9⟩ := R.tab.put e0 e1
  generalize t.put (L2.way t.mask (hX P w k) N) = pt at q1 q3 q4 q5 q9 ⊢
  generalize SetTable.below t.place (L2.way t.mask (hX P w k) N) = p at q1 q2 q3
  obtain ⟨t1, p1⟩ := pt
  dsimp only at q1 q3 q4 q5 q9 ⊢
  subst q1
  have rest : ∀ bv : Bool, wpAny (model P w) A (do
      storeSet a (SetTable.insertAt es p1 (hX P w k, Value.ref x)) (markX bv t1)
      if !false && (markX bv t1).tooFull then setRelay a (SetTable.grown (es.size + 1))
      return true) Q E s := fun bv => by
    obtain ⟨f1, f2, f3, f4⟩ := markX_facts bv q3
    generalize markX bv t1 = t2 at f1 f2 f3 f4 ⊢
    have pm := cut_perm L p1 (x, k)
    have r1 : (SetTable.insertAt es p1 (hX P w k, Value.ref x)).toList = (L.take p1 ++ (x, k) :: L.drop p1).map (rowX P w) := by
      rw [SetTable.toList_insertAt, R.row, List.map_append, List.map_cons, List.map_take, List.map_drop] <;> rfl
    have r2 : (L.take p1 ++ (x, k) :: L.drop p1).map (fun q => hX P w q.2) = (L.map fun q => hX P w q.2).take p1 ++ hX P w k :: (L.map fun q => hX P w q.2).drop p1 := by
      rw [List.map_append, List.map_cons, List.map_take, List.map_drop]
    rw [← r2] at f1
    generalize SetTable.insertAt es p1 (hX P w k, Value.ref x) = es1 at r1 ⊢
    generalize L.take p1 ++ (x, k) :: L.drop p1 = L1 at pm r1 f1
    have ln : L1.length = L.length + 1 := pm.length_eq
    have sz1 : es1.size = L.length + 1 := by rw [← Array.length_toList, r1, List.length_map, ln]
    refine wpAny_bind (wpAny_storeSet_of ho hd ?_ (by rw [sz1, sizeLine_eq]; omega))
    have sb : Heap.SameBut a s.heap (s.heap.update a (Obj.putSet es1 t2)) := Heap.SameBut.update ..
    have ho1 := store_at (es' := es1) (t' := t2) ho hd
    generalize s.heap.update a (Obj.putSet es1 t2) = h1 at sb ho1 ⊢
    have one1 : (L1.map Prod.snd).Nodup := (pm.map Prod.snd).nodup_iff.mpr (List.nodup_cons.mpr ⟨hm, R.one⟩)
    have key1 : ∀ q ∈ L1, IsX P w h1 q.2 q.1 := fun q hq => by
      rcases List.mem_cons.mp (pm.mem_iff.mp hq) with e | hq
      · subst e
        exact hx.past ho hd sb
      · exact (R.key q hq).past ho hd sb
    have way1 : w.params.followText "set-order" = true ∨ t2.led = true := by
      rw [f3, q5]
      exact R.way
    have full_iff : t2.tooFull = decide ((L.length + 1) * 5 ≥ t2.mask * 3) := by
      unfold SetTable.tooFull
      rw [f4, q9, List.length_map]
    by_cases hf : t2.tooFull = true
    · first
        | (refine wpAny_bind ?_; refine wp_if_pos (by simp [hf]) ?_)
        | (refine wp_if_pos (by simp [hf]) ?_; refine wpAny_bind ?_)
      have full : (L.length + 1) * 5 ≥ t2.mask * 3 := by
        rw [full_iff] at hf
        exact of_decide_eq_true hf
      rw [hsz]
      have sizes : (t.mask = 7 ∧ L.length = 4) ∨ (t.mask = 31 ∧ L.length = 18) := by
        have room := R.room
        rw [f2, q4] at full
        rcases R.tab.mok with e | e | e
        · rw [e] at full room; exact .inl ⟨e, by omega⟩
        · rw [e] at full room; exact .inr ⟨e, by omega⟩
        · rw [e] at full room; exfalso; omega
      have go : ∀ M, SetTable.sizeAbove (SetTable.grown (L.length + 1)) - 1 = M → MaskOk M → SetTable.sizeAbove (SetTable.grown (L.length + 1)) ≤ 128 → (L.length + 1) * 5 < M * 3 →
          wpAny (model P w) A (setRelay a (SetTable.grown (L.length + 1))) (fun _ s' => wpAny (model P w) A (pure true) Q E s') E { s with heap := h1 } := fun M c1 c2 c3 c4 => by
        refine relayX (s := { s with heap := h1 }) ho1 ⟨hex.1, hex.2.1, hex.2.2⟩ rfl r1 f1.sz f1.dm (by rw [sz1, f2, q4]; rcases sizes with ⟨e, e2⟩ | ⟨e, e2⟩ <;> omega) one1 key1 way1 (by rw [ln]; exact h3) c1 c2 c3 (by rw [ln]; exact c4) ?_
        intro h2 L2 es2 ep2 t3 sb2 R2 pm2
        exact wpAny_pure (new hm h2 L2 es2 ep2 t3 (sb.trans sb2) R2 (pm2.trans pm))
      rcases sizes with ⟨_, e2⟩ | ⟨_, e2⟩
      · exact go 31 (by rw [e2, size_20]) (.inr (.inl rfl)) (by rw [e2, size_20]; decide) (by omega)
      · exact go 127 (by rw [e2, size_76]) (.inr (.inr rfl)) (by rw [e2, size_76]; decide) (by omega)
    · first
        | refine wp_if_neg (by simp [hf]) ?_
        | (refine wpAny_bind ?_; refine wp_if_neg (by simp [hf]) ?_; refine wpAny_pure ?_)
      refine wpAny_pure (new hm h1 L1 es1 (ep + 1) t2 sb ⟨⟨_, ho1, ⟨hex.1, hex.2.1, hex.2.2⟩, rfl⟩, r1, f1, one1, key1, way1, ?_, by rw [ln]; exact h3⟩ pm)
      rw [full_iff, decide_eq_true_eq] at hf
      rw [ln]
      omega
  by_cases hp : t1.plain = true
  · first
      | (refine wpAny_bind ?_
         refine wp_if_pos hp (byX hx fun bv => ?_)
         exact rest bv)
      | exact wp_if_pos hp (wpAny_bind (byX hx fun bv => rest bv))
  · first
      | (refine wpAny_bind ?_
         refine wp_if_neg hp (wpAny_pure ?_)
         exact rest true)
      | exact wp_if_neg hp (rest true)

/-! ### set(xs) -/
/-- the set has what the first i items are -/
structure Sofar (ks : List Ent) (i : Nat) (L : List Ent) : Prop where
  from_ : ∀ q ∈ L, q ∈ ks.take i
  whole : ∀ q ∈ ks.take i, q.2 ∈ L.map Prod.snd
  small : L.length ≤ i
theorem take_one {α : Type} {l : List α} {i : Nat} {y : α} (e : l[i]? = some y) : l.take (i + 1) = l.take i ++ [y] := by
  rw [List.take_succ, e] <;> rfl
theorem Sofar.twice {ks L : List Ent} {i : Nat} {y : Ent} (g : Sofar ks i L) (e : ks[i]? = some y) (m : y.2 ∈ L.map Prod.snd) : Sofar ks (i + 1) L where
  from_ := fun q hq => by
    rw [take_one e]
    exact List.mem_append.mpr (.inl (g.from_ q hq))
  whole := fun q hq => by
    rw [take_one e, List.mem_append, List.mem_singleton] at hq
    rcases hq with hq | rfl
    · exact g.whole q hq
    · exact m
  small := by have := g.small; omega
theorem Sofar.next {ks L L1 : List Ent} {i : Nat} {y : Ent} (g : Sofar ks i L) (e : ks[i]? = some y) (pm : L1.Perm (y :: L)) : Sofar ks (i + 1) L1 where
  from_ := fun q hq => by
    rw [take_one e, List.mem_append, List.mem_singleton]
    rcases List.mem_cons.mp (pm.mem_iff.mp hq) with hq | hq
    · exact .inr hq
    · exact .inl (g.from_ q hq)
  whole := fun q hq => by
    rw [(pm.map Prod.snd).mem_iff, List.map_cons, List.mem_cons]
    rw [take_one e, List.mem_append, List.mem_singleton] at hq
    rcases hq with hq | rfl
    · exact .inr (g.whole q hq)
    · exact .inl rfl
  small := by
    have := g.small
    rw [pm.length_eq, List.length_cons]
    omega
theorem SetX.stays {h h' : Heap} {a : Addr} {L : List Ent} {es : Array (Int × Value)} {ep : Nat} {t : SetTable} (R : SetX P w h a L es ep t) (ha : ∀ u, h.get? a = some u → h'.get? a = some u) (hk : ∀ q ∈ L, IsX P w h' q.2 q.1) : SetX P w h' a L es ep t := by
  obtain ⟨o, ho, r⟩ := R.obj
  exact ⟨⟨o, ha o ho, r⟩, R.row, R.tab, R.one, hk, R.way, R.room, R.few⟩
theorem loopX {I : Addr} {fp wr : List Addr} {G : Array GenState → Array GenState → Prop} {n : Nat} {Pv : Nat → Value → Prop} {St : Nat → Shared → Prop} {Rs : Result → Shared → Prop}
    (W : WalksS P w A.in1 I fp wr G n Pv St) (S : Addr) (nS : S ∉ fp) (ks : List Ent) (hn : n = ks.length) (h4 : ks.length < 64) (hv : ∀ i v, Pv i v → ∃ q, ks[i]? = some q ∧ v = .ref q.1)
    (g0 : Heap) (hk : ∀ q ∈ ks, IsX P w g0 q.2 q.1) (sS : g0.get? S = none) (sw : ∀ b ∈ wr, g0.get? b = none) (hu : A.in1.units < cLine) (m : Nat) :
    ∀ (i : Nat) (s : Shared), n = i + m → St i s → (∀ c u, g0.get? c = some u → s.heap.get? c = some u) → (∃ L es ep t, SetX P w s.heap S L es ep t ∧ Sofar ks i L) →
      (∀ s1 L es ep t, Moved (S :: wr) G s s1 → SetX P w s1.heap S L es ep t → Sofar ks n L → (∀ c u, g0.get? c = some u → s1.heap.get? c = some u) → Rs (.ok (.ret .none)) s1) →
      codeAny (model P w) A (.builtin "set.update.loop" ⟨[.ref S, .ref I], []⟩) Rs s := by
  have nw : S ∉ wr := fun h => nS (W.sub S h)
  have wide : ∀ b ∈ wr, b ∈ S :: wr := fun b hb => .tail _ hb
  have carry : ∀ {s s1 : Shared}, Moved wr G s s1 → (∀ c u, g0.get? c = some u → s.heap.get? c = some u) → ∀ c u, g0.get? c = some u → s1.heap.get? c = some u := fun mv up c u e =>
    mv.heap c u (fun hb => by rw [sw c hb] at e; cases e) (up c u e)
  have whose : ∀ {i : Nat} {L : List Ent}, Sofar ks i L → ∀ q ∈ L, q ∈ ks := fun g q hq => List.mem_of_mem_take (g.from_ q hq)
  induction m with
  | zero =>
    rintro i s hi st up ⟨L, es, ep, t, hS, g⟩ fin
    obtain rfl : n = i := hi
    refine codeAny_builtin F.entry_set_update_loop ?_
    rw [Around.under_plainId F.plain_set_update_loop _]
    refine wpAny_bind (W.done s _ _ st fun s1 mv => ?_)
    have up1 := carry mv up
    exact wpAny_pure (fin s1 L es ep t (mv.mono wide) (hS.stays (fun u e => mv.heap S u nw e) fun q hq => (hk q (whose g q hq)).up up1) g up1)
  | succ m ih =>
    rintro i s hi st up ⟨L, es, ep, t, hS, g⟩ fin
    refine codeAny_builtin F.entry_set_update_loop ?_
    rw [Around.under_plainId F.plain_set_update_loop _]
    refine wpAny_bind (W.item i s _ _ (by omega) st fun v s1 pv st1 mv => ?_)
    obtain ⟨q, hq, rfl⟩ := hv i v pv
    have up1 := carry mv up
    have R1 : SetX P w s1.heap S L es ep t := hS.stays (fun u e => mv.heap S u nw e) fun r hr => (hk r (whose g r hr)).up up1
    have kq : IsX P w s1.heap q.2 q.1 := (hk q (List.mem_of_getElem? hq)).up up1
    have small := g.small
    have step : ∀ (h2 : Heap) (tk : Nat) (L2 : List Ent) es2 ep2 t2, s1.toks ≤ tk → Heap.SameBut S s1.heap h2 → SetX P w h2 S L2 es2 ep2 t2 → Sofar ks (i + 1) L2 →
        codeAny (model P w) A (.builtin "set.update.loop" ⟨[.ref S, .ref I], []⟩) Rs { s1 with heap := h2, toks := tk } := fun h2 tk L2 es2 ep2 t2 htk sb R2 g2 => by
      have off : ∀ b, b ≠ S → ∀ u, s1.heap.get? b = some u → h2.get? b = some u := fun b hb u e => (sb.2 b hb).trans e
      refine ih (i + 1) _ (by omega) (W.frame _ s1 _ _ st1 htk fun b hb u e => off b (fun z => nS (z ▸ hb)) u e) (fun c u e => off c (fun z => by rw [z, sS] at e; cases e) u (up1 c u e)) ⟨L2, es2, ep2, t2, R2, g2⟩ fun s3 L3 es3 ep3 t3 mv3 R3 g3 up3 => ?_
      exact fin s3 L3 es3 ep3 t3 (Moved.trans W.gtrans ((mv.mono wide).then_heap htk fun b u hb e => off b (fun z => hb (z ▸ .head _)) u e) mv3) R3 g3 up3
    refine wpAny_bind (wpAny_holding ?_)
    unfold setAdd
    refine wpAny_holding (wpAny_bind (wpAny_pyHash_tuple hu kq ?_))
    refine addX (s := { s1 with toks := s1.toks + (q.2.length + 1) }) R1 kq hu (by omega) (fun hm => ?_) fun hm h1 L1 es1 ep1 t1 sb R2 pm => ?_
    · exact wpAny_pure ⟨plainId_quiet F.plain_set_update_loop _, step s1.heap _ L es ep t (Nat.le_add_right _ _) (Heap.SameBut.refl S s1.heap) R1 (g.twice hq hm)⟩
    · exact wpAny_pure ⟨plainId_quiet F.plain_set_update_loop _, step h1 _ L1 es1 ep1 t1 (Nat.le_add_right _ _) sb R2 (g.next hq pm)⟩

abbrev freshX (w : World) : Obj := { cls := .type "set", dict := none, data := .set #[] 0 (.fresh 0 0 (!w.params.followText "set-order")) }
theorem setX_new {h : Heap} {b : Addr} (e : h.get? b = some (freshX w)) : SetX P w h b [] #[] 0 (.fresh 0 0 (!w.params.followText "set-order")) := by
  refine ⟨⟨_, e, ⟨rfl, rfl, rfl⟩, rfl⟩, rfl, ⟨.nil, rfl, rfl, .inl rfl, (fun x hx => nomatch hx), (fun i z j hz => by simp at hz)⟩, .nil, (fun q hq => nomatch hq), ?_, (by show 0 * 5 < 7 * 3; decide), (by decide)⟩
  by_cases c : w.params.followText "set-order" = true
  · exact .inl c
  · refine .inr ?_
    show (!w.params.followText "set-order") = true
    simp [c]
set_option maxHeartbeats 6400000 in
theorem call_setX_list {l : Addr} {items : Array Value} (ks : List Ent) {Q : Value → Shared → Prop} (hh : A.handled = none) (hl : s.heap.IsList l items) (hit : items.toList = ks.map fun q => Value.ref q.1)
    (hk : ∀ q ∈ ks, IsX P w s.heap q.2 q.1) (h4 : ks.length < 64) (hu : A.units + 3 < cLine)
    (fin : ∀ (h1 : Heap) (tk : Nat) L es ep t, SetX P w h1 s.heap.objs.size L es ep t → Sofar ks ks.length L → (∀ c u, s.heap.get? c = some u → h1.get? c = some u) → Q (.ref s.heap.objs.size) { s with heap := h1, toks := tk }) :
    wpAny (model P w) A (call (.type "set") [.ref l]) Q E s := by
  have size : items.size = ks.length := by rw [← Array.length_toList, hit, List.length_map]
  obtain ⟨c0, tl0, m0⟩ := F.called_set.mro
  have m1 := F.called_set.made
  have m2 := F.called_set.sub
  have m3 := F.called_set.notType
  have m4 := F.called_set.canCreate
  have m5 := F.typeCall_set_1 (.ref l)
  refine wpAny_call (codeAny_of_tree ?_)
  refine wpAny_pure ⟨Code.quiet_builtin _ (by decide +kernel), codeAny_builtin F.entry_type_call ?_⟩
  rw [Around.under_plain (weight_type_call_type "set" [.ref l] []) rfl]
  repeat (any_goals (first | assumption | wp_step))

  refine codeAny_mono (code_set_led1 (.ref l) (E := E) (Q₁ := fun v s1 => v = .ref s.heap.objs.size ∧ s1 = { s with heap := s.heap.push (freshX w) }) ⟨rfl, rfl⟩) fun r s1 hr => ?_
  match r, hr with
  | .error e, hr => exact hr
  | .ok (.ret v), hr =>
    obtain ⟨rfl, rfl⟩ := hr
    have newS : (s.heap.push (freshX w)).get? s.heap.objs.size = some (freshX w) := Heap.get?_push_size _ rfl
    have tyS : Shared.TypeIs { s with heap := s.heap.push (freshX w) } (.ref s.heap.objs.size) "set" := ⟨_, newS, rfl⟩
    have i1 := F.called_set.init.lookup
    have i2 := F.called_set.init.bind (.ref s.heap.objs.size)
    repeat (any_goals (first | assumption | wp_step))

    refine codeAny_mono (codeAny_call_builtin (R := wants (fun v s2 => v = .none ∧ ∃ h1 tk L es ep t, s2 = { s with heap := h1, toks := tk } ∧ SetX P w h1 s.heap.objs.size L es ep t ∧ Sofar ks ks.length L ∧
        (∀ c u, s.heap.get? c = some u → h1.get? c = some u)) E) F.called_set.init.plain F.entry_set_init (check_set_init_1 tyS ?_)) fun r2 s2 hr2 => ?_
    · obtain ⟨⟨oc, od, oa, os⟩, hol, hc1, nl, hd1⟩ := hl
      dsimp only at hc1 hd1
      subst hc1 hd1
      have listS : (s.heap.push (freshX w)).IsList l items := ⟨_, Heap.get?_push_of_some _ hol, rfl, nl, rfl⟩
      have hol2 := Heap.get?_push_of_some (freshX w) hol
      have b1 := F.sub_list_set
      have b2 := F.sub_list_frozenset
      have b3 : (Value.type "list" == Value.type "dict") = false := by decide
      unfold Builtin.«set.__init__» noKeywords Builtin.Frozenset.updateFrom
      generalize hPI : pyIter = PI
      wp_walk
      subst hPI

      refine wpAny_pyIter_list listS ?_
      refine wpAny_bind (wpAny_runValue ?_)
      have z1 : (s.heap.push (freshX w)).objs.size = s.heap.objs.size + 1 := Heap.size_push ..
      have low : @LT.lt Nat _ l s.heap.objs.size := Heap.lt_size hol
      have ne1 : l ≠ (s.heap.push (freshX w)).objs.size := by
        rw [z1]
        exact Nat.ne_of_lt (Nat.lt_succ_of_lt low)
      have hh3 : A.in1.in1.in1.handled = none := by simp [hh]
      have far : ∀ b : Nat, s.heap.objs.size ≤ b → s.heap.get? b = none := fun b hb => by
        cases e : s.heap.get? b with
        | none => rfl
        | some u =>
          have lt : @LT.lt Nat _ b s.heap.objs.size := Heap.lt_size e
          omega
      refine loopX ((Walks.list hh3 _ l ne1 items).toS) s.heap.objs.size (by
          rw [z1, List.mem_cons, List.mem_singleton]
          rintro (z | z)
          · exact absurd z (Nat.ne_of_lt (Nat.lt_succ_self _))
          · exact absurd z (Nat.ne_of_gt low)) ks size h4 (fun i v hv => ?_) s.heap hk (far _ (Nat.le_refl _))
        (fun b hb => far b (by rw [List.mem_singleton.mp hb, z1]; omega)) hu items.size 0 _ (by omega) ⟨⟨_, Heap.get?_push_size _ rfl, rfl, rfl⟩, (listS.push _)⟩ (fun b o e => Heap.get?_push_of_some _ (Heap.get?_push_of_some _ e)) ⟨[], #[], 0, _, setX_new (Heap.get?_push_of_some _ newS), ⟨(fun q hq => nomatch hq), (fun q hq => by simp at hq), Nat.le_refl _⟩⟩ fun s3 L es ep t mv R3 g3 up3 => ?_
      · have q : items.toList[i]? = some v := by rw [Array.getElem?_toList]; exact hv
        rw [hit, List.getElem?_map] at q
        cases e : ks[i]? with
        | none => rw [e] at q; cases q
        | some y =>
          rw [e] at q
          exact ⟨y, rfl, (Option.some.inj q).symm⟩
      · obtain ⟨h3, g3', d3, tk3, os3⟩ := s3
        obtain rfl : g3' = s.gens := mv.gens
        obtain rfl : d3 = s.drawn := mv.drawn
        obtain rfl : os3 = s.os := mv.os
        refine wpAny_pure ?_
        rw [size] at g3
        exact wpAny_pure ⟨rfl, h3, tk3, L, es, ep, t, rfl, R3, g3, up3⟩
    · match r2, hr2 with
      | .error e, hr2 => exact hr2
      | .ok (.ret v), hr2 =>
        obtain ⟨rfl, h1, tk, L, es, ep, t, rfl, R1, g1, up1⟩ := hr2
        repeat (any_goals (first | assumption | wp_step))
        exact fin _ _ _ _ _ _ R1 g1 up1
set_option maxHeartbeats 6400000 in
theorem call_setX_tuple {l : Addr} {items : Array Value} (ks : List Ent) {Q : Value → Shared → Prop} (hh : A.handled = none) (hl : s.heap.IsTuple l items) (hit : items.toList = ks.map fun q => Value.ref q.1)
    (hk : ∀ q ∈ ks, IsX P w s.heap q.2 q.1) (h4 : ks.length < 64) (hu : A.units + 3 < cLine)
    (fin : ∀ (h1 : Heap) (tk : Nat) L es ep t, SetX P w h1 s.heap.objs.size L es ep t → Sofar ks ks.length L → (∀ c u, s.heap.get? c = some u → h1.get? c = some u) → Q (.ref s.heap.objs.size) { s with heap := h1, toks := tk }) :
    wpAny (model P w) A (call (.type "set") [.ref l]) Q E s := by
  have size : items.size = ks.length := by rw [← Array.length_toList, hit, List.length_map]
  obtain ⟨c0, tl0, m0⟩ := F.called_set.mro
  have m1 := F.called_set.made
  have m2 := F.called_set.sub
  have m3 := F.called_set.notType
  have m4 := F.called_set.canCreate
  have m5 := F.typeCall_set_1 (.ref l)
  refine wpAny_call (codeAny_of_tree ?_)
  refine wpAny_pure ⟨Code.quiet_builtin _ (by decide +kernel), codeAny_builtin F.entry_type_call ?_⟩
  rw [Around.under_plain (weight_type_call_type "set" [.ref l] []) rfl]
  repeat (any_goals (first | assumption | wp_step))

  refine codeAny_mono (code_set_led1 (.ref l) (E := E) (Q₁ := fun v s1 => v = .ref s.heap.objs.size ∧ s1 = { s with heap := s.heap.push (freshX w) }) ⟨rfl, rfl⟩) fun r s1 hr => ?_
  match r, hr with
  | .error e, hr => exact hr
  | .ok (.ret v), hr =>
    obtain ⟨rfl, rfl⟩ := hr
    have newS : (s.heap.push (freshX w)).get? s.heap.objs.size = some (freshX w) := Heap.get?_push_size _ rfl
    have tyS : Shared.TypeIs { s with heap := s.heap.push (freshX w) } (.ref s.heap.objs.size) "set" := ⟨_, newS, rfl⟩
    have i1 := F.called_set.init.lookup
    have i2 := F.called_set.init.bind (.ref s.heap.objs.size)
    repeat (any_goals (first | assumption | wp_step))

    refine codeAny_mono (codeAny_call_builtin (R := wants (fun v s2 => v = .none ∧ ∃ h1 tk L es ep t, s2 = { s with heap := h1, toks := tk } ∧ SetX P w h1 s.heap.objs.size L es ep t ∧ Sofar ks ks.length L ∧
        (∀ c u, s.heap.get? c = some u → h1.get? c = some u)) E) F.called_set.init.plain F.entry_set_init (check_set_init_1 tyS ?_)) fun r2 s2 hr2 => ?_
    · obtain ⟨⟨oc, od, oa, os⟩, hol, hc1, nl, hd1⟩ := hl
      dsimp only at hc1 hd1
      subst hc1 hd1
      have listS : (s.heap.push (freshX w)).IsTuple l items := ⟨_, Heap.get?_push_of_some _ hol, rfl, nl, rfl⟩
      have hol2 := Heap.get?_push_of_some (freshX w) hol
      have b1 := F.sub_tuple_set
      have b2 := F.sub_tuple_frozenset
      have b3 : (Value.type "tuple" == Value.type "dict") = false := by decide
      unfold Builtin.«set.__init__» noKeywords Builtin.Frozenset.updateFrom
      generalize hPI : pyIter = PI
      wp_walk
      subst hPI

      refine wpAny_pyIter_tuple listS ?_
      refine wpAny_bind (wpAny_runValue ?_)
      have z1 : (s.heap.push (freshX w)).objs.size = s.heap.objs.size + 1 := Heap.size_push ..
      have low : @LT.lt Nat _ l s.heap.objs.size := Heap.lt_size hol
      have ne1 : l ≠ (s.heap.push (freshX w)).objs.size := by
        rw [z1]
        exact Nat.ne_of_lt (Nat.lt_succ_of_lt low)
      have hh3 : A.in1.in1.in1.handled = none := by simp [hh]
      have far : ∀ b : Nat, s.heap.objs.size ≤ b → s.heap.get? b = none := fun b hb => by
        cases e : s.heap.get? b with
        | none => rfl
        | some u =>
          have lt : @LT.lt Nat _ b s.heap.objs.size := Heap.lt_size e
          omega
      refine loopX ((Walks.tuple hh3 _ l ne1 items).toS) s.heap.objs.size (by
          rw [z1, List.mem_cons, List.mem_singleton]
          rintro (z | z)
          · exact absurd z (Nat.ne_of_lt (Nat.lt_succ_self _))
          · exact absurd z (Nat.ne_of_gt low)) ks size h4 (fun i v hv => ?_) s.heap hk (far _ (Nat.le_refl _))
        (fun b hb => far b (by rw [List.mem_singleton.mp hb, z1]; omega)) hu items.size 0 _ (by omega) ⟨⟨_, Heap.get?_push_size _ rfl, rfl, rfl⟩, (listS.push _)⟩ (fun b o e => Heap.get?_push_of_some _ (Heap.get?_push_of_some _ e)) ⟨[], #[], 0, _, setX_new (Heap.get?_push_of_some _ newS), ⟨(fun q hq => nomatch hq), (fun q hq => by simp at hq), Nat.le_refl _⟩⟩ fun s3 L es ep t mv R3 g3 up3 => ?_
      · have q : items.toList[i]? = some v := by rw [Array.getElem?_toList]; exact hv
        rw [hit, List.getElem?_map] at q
        cases e : ks[i]? with
        | none => rw [e] at q; cases q
        | some y =>
          rw [e] at q
          exact ⟨y, rfl, (Option.some.inj q).symm⟩
      · obtain ⟨h3, g3', d3, tk3, os3⟩ := s3
        obtain rfl : g3' = s.gens := mv.gens
        obtain rfl : d3 = s.drawn := mv.drawn
        obtain rfl : os3 = s.os := mv.os
        refine wpAny_pure ?_
        rw [size] at g3
        exact wpAny_pure ⟨rfl, h3, tk3, L, es, ep, t, rfl, R3, g3, up3⟩
    · match r2, hr2 with
      | .error e, hr2 => exact hr2
      | .ok (.ret v), hr2 =>
        obtain ⟨rfl, h1, tk, L, es, ep, t, rfl, R1, g1, up1⟩ := hr2
        repeat (any_goals (first | assumption | wp_step))
        exact fin _ _ _ _ _ _ R1 g1 up1
end
end Tr
set_option Elab.async false
set_option linter.all false
set_option maxRecDepth 100000
set_option maxHeartbeats 2000000
namespace Tr
open PySem PySem.Spec PyProof.Rows L2
variable [Tabbed]
/-! ### sorted -/
abbrev Duo := Addr × (Str × Str)
def Duo.ent (m : Duo) : Ent := (m.1, [m.2.1, m.2.2])
theorem lift_perm {α β : Type} {f : α → β} {vs us : List β} (pm : vs.Perm us) : ∀ L : List α, us = L.map f → ∃ L1 : List α, L1.Perm L ∧ vs = L1.map f := by
  induction pm with
  | nil =>
    intro L e
    exact ⟨[], by rw [List.map_eq_nil_iff.mp e.symm], rfl⟩
  | cons x _ ih =>
    intro L e
    cases L with
    | nil => cases e
    | cons y L =>
      rw [List.map_cons] at e
      injection e with e1 e2
      obtain ⟨L1, p1, rfl⟩ := ih L e2
      exact ⟨y :: L1, p1.cons y, by rw [List.map_cons, e1]⟩
  | swap x y l =>
    intro L e
    match L, e with
    | a :: b :: L, e =>
      simp only [List.map_cons, List.cons.injEq] at e
      exact ⟨b :: a :: L, .swap a b L, by rw [List.map_cons, List.map_cons, e.1, e.2.1, e.2.2]⟩
  | trans _ _ ih1 ih2 =>
    intro L e
    obtain ⟨L1, p1, e1⟩ := ih2 L e
    obtain ⟨L2, p2, e2⟩ := ih1 L1 e1
    exact ⟨L2, p2.trans p1, e2⟩
theorem duo_alike (p q : Str × Str) : PySem.W.alike (duoD p) (duoD q) = true := by
  simp [duoD, PySem.W.alike, PySem.W.alikeAll]
theorem duo_depth (p : Str × Str) : (duoD p).depth ≤ 1 := by
  simp [duoD, PyData.depth, PyData.depthAll]
theorem text_lt {x y : Str} (h : ¬ y.cps.toList < x.cps.toList) (ne : x ≠ y) : StrLt x y := by
  refine Classical.byContradiction fun h2 => ne ?_
  have e := List.le_antisymm (List.not_lt.mp h2) (List.not_lt.mp h)
  cases x
  cases y
  simp only [Str.mk.injEq]
  exact (Array.toList_inj.mp e).symm
theorem pair_lt_of {p q : Str × Str} (h : PySem.W.dataLt (duoD q) (duoD p) = false) (ne : p ≠ q) : PairLt p q := by
  obtain ⟨a, b⟩ := p
  obtain ⟨c, d⟩ := q
  unfold duoD at h
  rw [PySem.W.dataLt_pair (by simp [PySem.W.alike]) (by simp [PySem.W.alike]), PySem.W.dataLt_str, PySem.W.dataLt_str, eqv_str, eqv_str] at h
  dsimp only at h
  by_cases e1 : c = a
  · subst e1
    refine .inr ⟨rfl, ?_⟩
    have e2 : b ≠ d := fun e => ne (by rw [e])
    rw [if_pos (by simp)] at h
    rw [if_neg (by simp [Ne.symm e2])] at h
    exact text_lt (of_decide_eq_false h) e2
  · rw [if_neg (by simp [e1])] at h
    exact .inl (text_lt (of_decide_eq_false h) (Ne.symm e1))
section
variable {P : Program} {w : World} {A : Around} {E : Value → Shared → Prop} {s : Shared}
theorem duo_reads {h : Heap} {b : Addr} {x y : Str} (k : IsX P w h [x, y] b) : Reads h (.ref b) (duoD (x, y)) [] := by
  obtain ⟨o, its, n, h1, h2, h3, h4⟩ := k
  refine .tuple h1 h2 h3 ?_
  generalize its.toList = us at h4
  cases h4 with
  | cons k1 r1 =>
    cases r1 with
    | cons k2 r2 =>
      cases r2
      obtain ⟨t1, rfl⟩ := Value.isStrOf_shape k1
      obtain ⟨t2, rfl⟩ := Value.isStrOf_shape k2
      exact .cons (.str _ _) (.cons (.str _ _) .nil)
theorem each_at {α β : Type} (f : β → α) : ∀ l : List β, PySem.W.EachIs (fun v b => v = f b) (l.map f) l
  | [] => .nil
  | x :: l => .cons rfl (each_at f l)
theorem each_out {α β : Type} {f : β → α} : ∀ {us : List α} {l : List β}, PySem.W.EachIs (fun v b => v = f b) us l → us = l.map f
  | _, [], .nil => rfl
  | _, _ :: l, .cons h t => by rw [h, each_out t] <;> rfl
theorem each_all {α β : Type} {R : α → β → Prop} {f : β → α} : ∀ (l : List β), (∀ b ∈ l, R (f b) b) → PySem.W.EachIs R (l.map f) l
  | [], _ => .nil
  | x :: l, h => .cons (h x (.head _)) (each_all l fun b hb => h b (.tail _ hb))
theorem sorted_setX {a : Addr} {M : List Duo} {es : Array (Int × Value)} {ep : Nat} {t : SetTable} {Q : Value → Shared → Prop} (R : SetX P w s.heap a (M.map Duo.ent) es ep t) (hh : A.handled = none) (hu : A.units + 9 < cLine)
    (fin : ∀ (s1 : Shared) (p : Addr) (out : Array Value) (c : Nat) (N : List Duo), (∀ b u, s.heap.get? b = some u → s1.heap.get? b = some u) → s1.gens = s.gens → s1.os = s.os → s.heap.objs.size ≤ p →
      s1.heap.get? p = some (seqObj "list" out c) → out.toList = N.map (fun m => Value.ref m.1) → N.Perm M → N.Pairwise (fun m n => PairLt m.2 n.2) → Q (.ref p) s1) :
    wpAny (model P w) A (call (.builtin "sorted") [.ref a]) Q E s := by
  obtain ⟨o, ho, hex, hd⟩ := R.obj
  have few := R.few
  rw [List.length_map] at few
  have big : es.size < scanBound := by
    have h1 := R.sz
    rw [List.length_map] at h1
    unfold scanBound
    omega
  refine Calls.call_function_entry kind_sorted plain_sorted entry_sorted (args_sorted1 _) ?_
  unfold Builtin.«sorted»
  refine wpAny_bind (m := checkCount "sorted" 1 1 _) (wpAny_pure ?_)
  refine wpAny_bind (collect_set (A := A.in1) hh ⟨o, ho, hex.1, hd⟩ R.fit big R.tab.ris R.way fun s1 vs up hz g1 o1 pm => ?_)
  have rows : es.toList.map (·.2) = M.map fun m => Value.ref m.1 := by
    rw [R.row, List.map_map, List.map_map] <;> rfl
  rw [rows] at pm
  obtain ⟨L1, p1, rfl⟩ := lift_perm pm M rfl
  have len1 : L1.length < 64 := by rw [p1.length_eq]; exact few
  refine wpAny_bind (wpAny_newList ?_ (by rw [List.length_map, sizeLine_eq]; omega))
  have at1 : (s1.heap.push (seqObj "list" (L1.map fun m => Value.ref m.1).toArray 0)).get? s1.heap.objs.size = some (seqObj "list" (L1.map fun m => Value.ref m.1).toArray 0) := Heap.get?_push_size _ rfl
  have rd : ∀ m ∈ L1, ∃ as, Reads (s1.heap.push (seqObj "list" (L1.map fun m => Value.ref m.1).toArray 0)) (.ref m.1) (duoD m.2) as ∧ s1.heap.objs.size ∉ as := fun m hm => by
    refine ⟨[], duo_reads (P := P) (w := w) ?_, fun z => nomatch z⟩
    exact (R.key m.ent (List.mem_map_of_mem (p1.mem_iff.mp hm))).up fun c u e => Heap.get?_push_of_some _ (up c u e)
  refine wpAny_bind (wpAny_holding (PySem.W.list_sort_data (s := { s1 with heap := s1.heap.push (seqObj "list" (L1.map fun m => Value.ref m.1).toArray 0) }) (R := fun v m => v = Value.ref m.1) (enc := fun m : Duo => duoD m.2) (bs := L1) at1 (each_at _ L1) (each_all L1 rd)
    (PySem.W.AllAlike.of fun m n => duo_alike _ _) (PySem.W.Sortable.tuples fun m => ⟨_, _, rfl⟩) (by rw [sizeLine_eq]; omega) (fun m hm => by
      have := duo_depth m.2
      have h1 : A.in1.units ≤ A.units + 3 := by simp
      omega) fun out h1 h2 => ?_))
  obtain ⟨c, hc⟩ := sortedHeap_at (vs := L1.map fun m => Value.ref m.1) (out := out.toArray) at1
  have pmN : (L1.mergeSort (PySem.W.dataLe false fun m : Duo => duoD m.2)).Perm M := (List.mergeSort_perm _ _).trans p1
  refine wpAny_pure ⟨_, rfl, fin _ s1.heap.objs.size out.toArray c (L1.mergeSort (PySem.W.dataLe false fun m : Duo => duoD m.2)) (fun b u e => ?_) g1 o1 hz hc (each_out h2) pmN ?_⟩
  · have e1 := up b u e
    have lt := Heap.lt_size e1
    refine (sortedHeap_old (Nat.ne_of_lt lt) ?_).trans (Heap.get?_push_of_some _ e1)
    rw [size_push']
    exact Nat.lt_succ_of_lt lt
  · have tl : PySem.W.TotalLe (PySem.W.dataLe false fun m : Duo => duoD m.2) := PySem.W.sortLe_total _ _ _
    have pw := PySem.W.sort_pairwise tl L1
    have one : (M.map fun m => m.2).Nodup := by
      have h0 := R.one
      rw [List.map_map] at h0
      refine List.Pairwise.map (R := fun m n : Duo => m.2 ≠ n.2) _ (fun m n h => h) ?_
      refine (List.pairwise_map.mp h0).imp fun {m n} h e => h ?_
      show [m.2.1, m.2.2] = [n.2.1, n.2.2]
      rw [e]
    have one2 := (pmN.map fun m => m.2).nodup_iff.mpr one
    refine (pw.and (List.pairwise_map.mp one2)).imp fun {m n} h => pair_lt_of ?_ h.2
    have h1 : (!PySem.W.dataLt (duoD n.2) (duoD m.2)) = true := h.1
    simpa using h1
end
end Tr
namespace Tr
open PySem PySem.Spec PyProof.Rows L2
variable [Tabbed]
/-! ### the rule -/
def SetX0 (P : Program) (w : World) (h : Heap) (a : Addr) (M : List Duo) : Prop :=
  (∃ o, h.get? a = some o) ∧ ∃ es ep t, ∀ h2 : Heap, (∀ u, h.get? a = some u → h2.get? a = some u) → (∀ q ∈ M.map Duo.ent, IsX P w h2 q.2 q.1) → SetX P w h2 a (M.map Duo.ent) es ep t
def SetXO (P : Program) (w : World) (a : Addr) (M : List Duo) : HO := .ext fun h => SetX0 P w h a M
theorem SetX.zero {P : Program} {w : World} {h : Heap} {a : Addr} {M : List Duo} {es : Array (Int × Value)} {ep : Nat} {t : SetTable} (R : SetX P w h a (M.map Duo.ent) es ep t) : SetX0 P w h a M := by
  obtain ⟨o, ho, _⟩ := R.obj
  exact ⟨⟨o, ho⟩, es, ep, t, fun h2 k1 k2 => R.stays k1 k2⟩
theorem setXO_ok {P : Program} {w : World} {H : Hp} {h : Heap} {a : Addr} {M : List Duo} (R : SetX0 P w h a M) : ObjOk P w H h a (SetXO P w a M) := by
  refine ⟨R, R.1, fun h1 h2 p k => ?_⟩
  obtain ⟨⟨o, ho⟩, es, ep, t, f⟩ := p
  exact ⟨⟨o, k o ho⟩, es, ep, t, fun h3 k1 k2 => f h3 (fun u e => k1 u (k u e)) k2⟩
section
variable {X : Cx}
theorem isX_of {pins : List (Addr × Obj)} {σ : L2.St} {H : Hp} {s : Shared} {m : Duo} (I : Inv X pins σ H s) (h : SqT X.K H m.1 [V.str m.2.1, V.str m.2.2]) : IsX X.prog X.w s.heap m.ent.2 m.ent.1 := by
  obtain ⟨its, r, ⟨o, ho, hc, n, hd⟩, _⟩ := I.tuple h
  refine ⟨o, its.toArray, n, ho, hc, hd, ?_⟩
  match its, r with
  | [u1, u2], .cons ⟨t1, e1⟩ (.cons ⟨t2, e2⟩ .nil) =>
    subst e1
    subst e2
    exact .cons (by simp [PySem.strKind, Value.isStrOf]) (.cons (by simp [PySem.strKind, Value.isStrOf]) .nil)
theorem duo_vals : ∀ {M : List Duo} {us : List Value}, Vals (M.map fun m => V.ref m.1) us → us = M.map fun m => Value.ref m.1
  | [], _, .nil => rfl
  | m :: M, _, .cons r t => by
    cases r
    rw [duo_vals t] <;> rfl
theorem vals_duo : ∀ M : List Duo, Vals (M.map fun m => V.ref m.1) (M.map fun m => Value.ref m.1)
  | [] => .nil
  | m :: M => .cons rfl (vals_duo M)
theorem ents_of : ∀ {L : List Ent} {M : List Duo}, (∀ q ∈ L, q ∈ M.map Duo.ent) → ∃ N : List Duo, L = N.map Duo.ent ∧ ∀ m ∈ N, m ∈ M
  | [], _, _ => ⟨[], rfl, fun m h => nomatch h⟩
  | q :: L, M, h => by
    obtain ⟨m, hm, e⟩ := List.mem_map.mp (h q (.head _))
    obtain ⟨N, e2, h2⟩ := ents_of (L := L) (M := M) fun r hr => h r (.tail _ hr)
    refine ⟨m :: N, by rw [List.map_cons, e, e2], fun r hr => ?_⟩
    rcases List.mem_cons.mp hr with rfl | hr
    · exact hm
    · exact h2 r hr
theorem ent_inj {m n : Duo} (e : m.ent.2 = n.ent.2) : m.2 = n.2 := by
  obtain ⟨a, x, y⟩ := m
  obtain ⟨b, z, u⟩ := n
  simpa [Duo.ent] using e
def rSetX (K : PySem.W.Frag) (P : Program) (w : World) : List V → Hp → VK → Prop := fun xs H Q => ∃ (l : Addr) (M : List Duo), xs = [V.ref l] ∧ (SqL K H l (M.map fun m => V.ref m.1) ∨ SqT K H l (M.map fun m => V.ref m.1)) ∧ (∀ m ∈ M, SqT K H m.1 [V.str m.2.1, V.str m.2.2]) ∧ M.length < 64 ∧
  ∀ (a : Addr) (N : List Duo), H a = none → (∀ m ∈ N, m ∈ M) → (∀ m ∈ M, m.2 ∈ N.map (·.2)) → N.length ≤ M.length → (N.map (·.2)).Nodup → Q (.ref a) (upd H a (SetXO P w a N))
theorem call_rSetX (hc : X.calm = true) (hu : X.A.units + 64 < cLine) : CallR X (.type "set") (rSetX X.K X.prog X.w) := by
  rintro pins s σ H xs us Q I r ⟨l, M, rfl, hl, hk, h4, q⟩
  rw [Vals.ref1 r]
  have hn : H s.heap.objs.size = none := I.hok.fresh (Nat.le_refl _)
  have fin : ∀ (h1 : Heap) (tk : Nat) (L : List Ent) es ep t, SetX X.prog X.w h1 s.heap.objs.size L es ep t → Sofar (M.map Duo.ent) (M.map Duo.ent).length L → (∀ c u, s.heap.get? c = some u → h1.get? c = some u) → EP X pins σ Q (.ref s.heap.objs.size) { s with heap := h1, toks := tk } := fun h1 tk L es ep t R g up => by
    rw [List.length_map] at g
    have fr := g.from_
    have wh := g.whole
    have sm := g.small
    rw [List.take_of_length_le (by rw [List.length_map]; exact Nat.le_refl _)] at fr wh
    obtain ⟨N, rfl, hN⟩ := ents_of fr
    rw [List.length_map] at sm
    have one : (N.map (·.2)).Nodup := by
      have h0 := R.one
      rw [List.map_map] at h0
      refine List.Pairwise.map (R := fun m n : Duo => m.2 ≠ n.2) _ (fun m n h => h) ?_
      refine (List.pairwise_map.mp h0).imp fun {m n} h e => h ?_
      show [m.2.1, m.2.2] = [n.2.1, n.2.2]
      rw [e]
    refine ⟨.ref s.heap.objs.size, upd H s.heap.objs.size (SetXO X.prog X.w s.heap.objs.size N), I.laid (t' := tk) up (Nat.le_refl _) (setXO_ok R.zero), rfl, q _ N hn hN (fun m hm => ?_) sm one⟩
    have h2 := wh m.ent (List.mem_map_of_mem hm)
    rw [List.map_map] at h2
    obtain ⟨n, hn2, e2⟩ := List.mem_map.mp h2
    exact List.mem_map.mpr ⟨n, hn2, ent_inj e2⟩
  have keys : ∀ q ∈ M.map Duo.ent, IsX X.prog X.w s.heap q.2 q.1 := fun q hq => by
    obtain ⟨m, hm, rfl⟩ := List.mem_map.mp hq
    exact isX_of I (hk m hm)
  have ents : ∀ {its : List Value}, Vals (M.map fun m => V.ref m.1) its → its = (M.map Duo.ent).map fun q => Value.ref q.1 := fun {its} rv => by
    rw [duo_vals rv, List.map_map] <;> rfl
  rcases hl with hl | hl
  · obtain ⟨its, rv, pl, hz⟩ := I.list hl
    exact call_setX_list (P := X.prog) (w := X.w) (M.map Duo.ent) (I.ok.hd hc) pl.isList (by simpa using ents rv) keys (by rw [List.length_map]; exact h4) (by omega) fin
  · obtain ⟨its, rv, pl, hz⟩ := I.tuple hl
    exact call_setX_tuple (P := X.prog) (w := X.w) (M.map Duo.ent) (I.ok.hd hc) pl (by simpa using ents rv) keys (by rw [List.length_map]; exact h4) (by omega) fin
def rLenX (P : Program) (w : World) : List V → Hp → VK → Prop := fun vs H Q => ∃ (a : Addr) (M : List Duo), vs = [V.ref a] ∧ H a = some (SetXO P w a M) ∧ (∀ m ∈ M, SqT X.K H m.1 [V.str m.2.1, V.str m.2.2]) ∧ Q (.int (M.length : Nat)) H
theorem call_rLenX : CallR X (.builtin "len") (rLenX (X := X) X.prog X.w) := by
  rintro pins s σ H vs us Q I r ⟨a, M, rfl, ha, hk, q⟩
  have z : SetX0 X.prog X.w s.heap a M := (I.hok a _ ha).1
  obtain ⟨_, es, ep, t, f⟩ := z
  have R := f s.heap (fun u e => e) fun y hy => by
    obtain ⟨m, hm, rfl⟩ := List.mem_map.mp hy
    exact isX_of I (hk m hm)
  have size0 : es.size = M.length := by rw [R.sz, List.length_map]
  have few := R.few
  rw [List.length_map] at few
  obtain ⟨o, ho, hex, hd⟩ := R.obj
  rw [Vals.ref1 r]
  rw [← size0] at q
  exact call_len_set ho hex hd R.fit (by omega) ⟨.int es.size, H, I.tok _, ⟨_, rfl⟩, q⟩
def rSortX (K : PySem.W.Frag) (P : Program) (w : World) : List V → Hp → VK → Prop := fun vs H Q => ∃ (a : Addr) (M : List Duo), vs = [V.ref a] ∧ H a = some (SetXO P w a M) ∧ (∀ m ∈ M, SqT K H m.1 [V.str m.2.1, V.str m.2.2]) ∧ M.length < 64 ∧
  ∀ (N : List Duo) (p : Addr), N.Perm M → N.Pairwise (fun m n => PairLt m.2 n.2) → H p = none → Q (.ref p) (upd H p (.lst (N.map fun m => V.ref m.1)))
theorem call_rSortX (hc : X.calm = true) (hu : X.A.units + 64 < cLine) : CallR X (.builtin "sorted") (rSortX X.K X.prog X.w) := by
  rintro pins s σ H vs us Q I r ⟨a, M, rfl, ha, hk, h4, q⟩
  have z : SetX0 X.prog X.w s.heap a M := (I.hok a _ ha).1
  obtain ⟨_, es, ep, t, f⟩ := z
  have R := f s.heap (fun u e => e) fun y hy => by
    obtain ⟨m, hm, rfl⟩ := List.mem_map.mp hy
    exact isX_of I (hk m hm)
  rw [Vals.ref1 r]
  refine sorted_setX R (I.ok.hd hc) (by omega) fun s1 p out c N up g o hp hg hout pm pw => ?_
  have ln : (N.map fun m => V.ref m.1).length ≤ sizeLine := by rw [List.length_map, pm.length_eq, sizeLine_eq]; omega
  have hn : H p = none := I.hok.fresh hp
  have hv : Vals (N.map fun m => V.ref m.1) out.toList := by rw [hout]; exact vals_duo N
  have J : Inv X pins σ (upd H p (.lst (N.map fun m => V.ref m.1))) { s with heap := s1.heap, gens := s1.gens, drawn := s1.drawn, toks := s1.toks } :=
    I.call (ch := []) (Un.laid up hp hn) (I.hok.laid up hp ⟨ln, out.toList, c, hv, hg⟩) (by rw [g]; exact I.bare) (fun _ z => nomatch z)
  have e : s1 = { s with heap := s1.heap, gens := s1.gens, drawn := s1.drawn, toks := s1.toks } := by
    obtain ⟨b1, b2, b3, b4, b5⟩ := s1
    obtain ⟨c1, c2, c3, c4, c5⟩ := s
    dsimp only at o
    subst o
    rfl
  rw [e]
  exact ⟨.ref p, _, J, rfl, q N p pm pw hn⟩
theorem duo_of {K : PySem.W.Frag} {S : Hp} {v : V} {p : Str × Str} (h : Dq K S v (duoD p)) : ∃ a, v = V.ref a ∧ SqT K S a [V.str p.1, V.str p.2] := by
  unfold duoD at h
  cases h with
  | tup sq hd =>
    cases hd with
    | cons k1 k2 =>
      cases k1
      cases k2 with
      | cons k3 k4 =>
        cases k3
        cases k4
        exact ⟨_, rfl, sq⟩
theorem duos_of {K : PySem.W.Frag} {S : Hp} : ∀ (ps : List (Str × Str)) {vs : List V}, DqAll K S vs (ps.map duoD) → ∃ M : List Duo, vs = M.map (fun m => V.ref m.1) ∧ M.map (·.2) = ps ∧ ∀ m ∈ M, SqT K S m.1 [V.str m.2.1, V.str m.2.2]
  | [], vs, h => by
    have h1 : DqAll K S vs [] := h
    cases h1
    exact ⟨[], rfl, rfl, fun m z => nomatch z⟩
  | p :: ps, vs, h => by
    have h1 : DqAll K S vs (duoD p :: ps.map duoD) := h
    cases h1 with
    | cons k1 k2 =>
      obtain ⟨a, rfl, sq⟩ := duo_of k1
      obtain ⟨M, rfl, rfl, hM⟩ := duos_of ps k2
      refine ⟨(a, p) :: M, rfl, rfl, fun m hm => ?_⟩
      rcases List.mem_cons.mp hm with rfl | hm
      · exact sq
      · exact hM m hm
theorem dq_duos {K : PySem.W.Frag} {S : Hp} : ∀ {N : List Duo}, (∀ m ∈ N, SqT K S m.1 [V.str m.2.1, V.str m.2.2]) → DqAll K S (N.map fun m => V.ref m.1) ((N.map (·.2)).map duoD)
  | [], _ => .nil
  | m :: N, h => DqAll.cons (Dq.tup (h m (.head _)) (DqAll.cons (Dq.str _) (DqAll.cons (Dq.str _) DqAll.nil))) (dq_duos fun n hn => h n (.tail _ hn))
def wSortedSet (we : W1) : WA := fun ρ P => we ρ fun d ρ1 => gSortedSet d fun ds => P ds ρ1
variable {e : Expr} {te : TE} {we : W1} {p1 p2 q1 q2 : Pos}
theorem en_sortedSet (hu : X.A.units + 100 < cLine) (hc : X.calm = true) (hms : X.mg "sorted" = none) (hmt : X.mg "set" = none) (ha : EV X e te we) (hgs : Gl X "sorted" := by rfl) (hgt : Gl X "set" := by rfl)
    (he : starEach [e] X.env = (false, eval e X.env) :: starEach [] X.env := by rfl) (hpl : (backTo q2 (starEach [] X.env)).any (·.1) = false := by rfl)
    (he2 : starEach [(.Call (.Name "set" p2) [e] [] q2)] X.env = (false, eval (.Call (.Name "set" p2) [e] [] q2) X.env) :: starEach [] X.env := by rfl) (hpl2 : (backTo q1 (starEach [] X.env)).any (·.1) = false := by rfl) :
    EN X (.Call (.Name "sorted" p1) [.Call (.Name "set" p2) [e] [] q2] [] q1) (tCB (rSortX X.K X.prog X.w) (tCons (tCB (rSetX X.K X.prog X.w) (tCons te tNil)) tNil)) (wSortedSet we) :=
  ⟨pe_callB (call_rSortX hc (by omega)) hgs hms (by decide +kernel) (pa_cons (pe_callTy (call_rSetX hc (by omega)) hgt hmt (by decide +kernel) (pa_cons ha.pe pa_nil he) (by decide) (by decide) he hpl) pa_nil he2) (by decide) (by decide) he2 hpl2, fun F ρ P σ S H Q hw R q =>
    ha.sd F ρ _ σ S H _ hw R fun d ρ1 v S1 H1 h1 R1 s1 d1 => by
      obtain ⟨ps, rfl, h4, hok, g⟩ := h1
      cases d1 with
      | lst sq da =>
        obtain ⟨M, rfl, rfl, hM⟩ := duos_of _ da
        rw [List.length_map] at h4
        refine ⟨_, M, rfl, .inl (same_sqL R1.sub sq), fun m hm => same_sqT R1.sub (hM m hm), h4, fun a N na hN hM2 hl _ => ?_⟩
        refine ⟨a, N, rfl, upd_same, fun m hm => same_sqT (R1.sub.trans (same_new na)) (hM m (hN m hm)), by omega, fun N2 p pm pw hn => ?_⟩
        have np : H1 p = none := by
          cases z : H1 p with
          | none => rfl
          | some o =>
            have := same_new (o := SetXO X.prog X.w a N) na p o z
            rw [this] at hn
            cases hn
        have R2 := R1.lay na (SetXO X.prog X.w a N)
        have key : P ((N2.map (·.2)).map duoD) ρ1 := g _ (List.pairwise_map.mpr pw) (fun pr => ?_) ?_
        · exact q _ ρ1 p _ S1 _ key (R2.lay hn _) s1 (R2.bare hn) (dq_duos fun m hm => hM m (hN m (pm.mem_iff.mp hm)))
        · constructor
          · intro h
            obtain ⟨m, hm, rfl⟩ := List.mem_map.mp h
            exact List.mem_map_of_mem (hN m (pm.mem_iff.mp hm))
          · intro h
            obtain ⟨m, hm, rfl⟩ := List.mem_map.mp h
            exact ((pm.map (·.2)).mem_iff).mpr (hM2 m hm)
        · rw [List.length_map, List.length_map, pm.length_eq]
          exact hl⟩
/-- len(set(xs)) of pairs of texts -/
def wLenSetX (we : W1) : W1 := fun ρ P => we ρ fun d ρ1 => ∃ (b : Bool) (ps : List (Str × Str)), d = seqOf b (ps.map duoD) ∧ ps.length < 64 ∧ ∀ L : List (Str × Str), L.Nodup → (∀ x, x ∈ L ↔ x ∈ ps) → P (.int (L.length : Nat)) ρ1
theorem ev_lenSetX (hu : X.A.units + 100 < cLine) (hc : X.calm = true) (hml : X.mg "len" = none) (hmt : X.mg "set" = none) (ha : EV X e te we) (hgl : Gl X "len" := by rfl) (hgt : Gl X "set" := by rfl)
    (he : starEach [e] X.env = (false, eval e X.env) :: starEach [] X.env := by rfl) (hpl : (backTo q2 (starEach [] X.env)).any (·.1) = false := by rfl)
    (he2 : starEach [(.Call (.Name "set" p2) [e] [] q2)] X.env = (false, eval (.Call (.Name "set" p2) [e] [] q2) X.env) :: starEach [] X.env := by rfl) (hpl2 : (backTo q1 (starEach [] X.env)).any (·.1) = false := by rfl) :
    EV X (.Call (.Name "len" p1) [.Call (.Name "set" p2) [e] [] q2] [] q1) (tCB (rLenX (X := X) X.prog X.w) (tCons (tCB (rSetX X.K X.prog X.w) (tCons te tNil)) tNil)) (wLenSetX we) :=
  ⟨pe_callB call_rLenX hgl hml PySem.boot_len (pa_cons (pe_callTy (call_rSetX hc (by omega)) hgt hmt (by decide +kernel) (pa_cons ha.pe pa_nil he) (by decide) (by decide) he hpl) pa_nil he2) (by decide) (by decide) he2 hpl2, fun F ρ P σ S H Q hw R q =>
    ha.sd F ρ _ σ S H _ hw R fun d ρ1 v S1 H1 h1 R1 s1 d1 => by
      obtain ⟨b, ps, rfl, h64, g⟩ := h1
      have go : ∀ (l : Addr) (M : List Duo), (SqL X.K H1 l (M.map fun m => V.ref m.1) ∨ SqT X.K H1 l (M.map fun m => V.ref m.1)) → M.map (·.2) = ps → (∀ m ∈ M, SqT X.K S1 m.1 [V.str m.2.1, V.str m.2.2]) → v = .ref l →
          rSetX X.K X.prog X.w [v] H1 fun x H2 => rLenX (X := X) X.prog X.w [x] H2 Q := fun l M sq em hM ev => by
        subst em ev
        rw [List.length_map] at h64
        refine ⟨l, M, rfl, sq, fun m hm => same_sqT R1.sub (hM m hm), h64, fun a N na hN hM2 hl one => ?_⟩
        refine ⟨a, N, rfl, upd_same, fun m hm => same_sqT (R1.sub.trans (same_new na)) (hM m (hN m hm)), ?_⟩
        have z := g (N.map (·.2)) one fun x => ⟨fun hx => by
          obtain ⟨m, hm, rfl⟩ := List.mem_map.mp hx
          exact List.mem_map_of_mem (hN m hm), fun hx => by
          obtain ⟨m, hm, rfl⟩ := List.mem_map.mp hx
          exact hM2 m hm⟩
        rw [List.length_map] at z
        exact q _ ρ1 _ S1 _ z (R1.lay na _) s1 (.int _)
      cases b with
      | false =>
        cases d1 with
        | lst sq da =>
          obtain ⟨M, rfl, em, hM⟩ := duos_of _ da
          exact go _ M (.inl (same_sqL R1.sub sq)) em hM rfl
      | true =>
        cases d1 with
        | tup sq da =>
          obtain ⟨M, rfl, em, hM⟩ := duos_of _ da
          exact go _ M (.inr (same_sqT R1.sub sq)) em hM rfl⟩
end
end Tr
set_option Elab.async false
set_option linter.all false
set_option maxRecDepth 100000
set_option maxHeartbeats 4000000
namespace K04
open PySem PySem.Spec PyProof.Rows L2 Tr
variable [Tabbed]
local macro_rules | `(tactic| walk_at "tr") => `(tactic| simp only [Tr.Later, wRet, wRetN, wExpr, wAsg, wSet, wSetN, wPar, wParV0, wParN0, wAugI, wgNil, wgCons, wCall, wCall0, wCallM, wCallN, wIxO, wFn, wFn1, wFnN, wTuple1, wAppend, wPopAt, wSetO, wNeO, wIsN, wTup, wLst, wYes, wRep, wSliceL, wSliceT, wRev, wSortedSet, ownAt, asInt, asNat, asList, asTuple, someOf, at0, at1, at2, at3, wIf, wB, wOp, wOpN, wName, wLook, wN, wC, wAnd, wOr, wNot, wAndV, wOrV, wNotV, wSeq, wNext, wIfS, wNil, wCons, wPart, wgSeq, gvName, wTurn, wipeE, gI, gI0, gEq, gNe, gLen, gIx, gInt, gAbs, gMin2, gList, gTup1, gAll, gCatL, gCatT, isNone, startE, startM, List.map_cons, List.map_nil, List.length_cons, List.length_nil, List.cons_append, List.nil_append, List.getElem?_cons_zero, List.getElem?_cons_succ, List.set_cons_zero, List.set_cons_succ, List.replicate, List.length_map, if_true, if_false, Bool.false_eq_true, reduceIte, List.mem_cons, List.not_mem_nil, or_false, forall_eq, forall_eq_or_imp, false_implies, implies_true, true_and, and_true, Option.bind_some, Option.map_some, Option.map_none, Int.reduceLT, Int.reduceLE, Int.reduceToNat, Int.toNat_zero, Int.toNat_one, Int.toNat_natCast, Nat.reduceAdd, Nat.reduceLT, decide_true, List.set, Int.add_zero, Int.zero_add])
/-- a text that is short -/
def okS (x : Str) : Prop := PyData.strOk x = true ∧ x.length ≤ 8 ∧ x ∈ words
def useD (u : (Str × Str) × Bool) : PyData := .tuple [.str u.1.1, .str u.1.2, .bool u.2]
section
variable {P : Program} {w : World} {K : PySem.W.Frag} {mg : Str → Option Value} {base : Heap}
def tPairs : TSm := fun cs ds Q => ∃ (n most : Nat), BoxOk n cs ∧ n < 900000 ∧ ds = [.int most] ∧ most ≤ 3 ∧ ∀ (ps : List (Str × Str)) cs', ps.Pairwise PairLt → (∀ p ∈ ps, okS p.1 ∧ okS p.2) → ps.length ≤ 3 → BoxOk (n + 10) cs' → Q (.list (ps.map duoD)) cs'
theorem ok_pairs (T : Top K mg) : FnOk P w K mg base (L2.CX P w) 3 T.a_pairs T.d_pairs ["_law_box_here", "_law_most"] (spM K 1 tPairs) := by
  refine fn_mut T.F_pairs sc_pairs rfl fun c A o s H E hr => ?_
  have nd := sc_pairs.nd
  have hu : (A.deeper (envOfC "_law_pairs" (defScope s_pairs) s.heap.objs.size T.a_pairs c)).units + 100 < cLine := by have := hr.un; omega
  refine ⟨_, _, (svs_cons (sv_setN 2 nd (en_lst ea_nil))
      (svs_cons (sv_forR T.b_range (ev_callM 0 (ok_take T) (hr.mono (by decide)) T.m_take T.F_take.kp T.B_take (ea_cons (ev_add (ev_name 1) ev_int) ea_nil)) (gv_name 3 nd) (svs_one (sv_append 2 (ev_tup (ea_cons (ev_callM 0 (ok_pick T) (hr.mono (by decide)) T.m_pick T.F_pick.kp T.B_pick (ea_cons (en_lst (ea_cons ev_str (ea_cons ev_str (ea_cons ev_str (ea_cons ev_str ea_nil))))).ev ea_nil)) (ea_cons (ev_callM 0 (ok_pick T) (hr.mono (by decide)) T.m_pick T.F_pick.kp T.B_pick (ea_cons (en_lst (ea_cons ev_str (ea_cons ev_str (ea_cons ev_str (ea_cons ev_str ea_nil))))).ev ea_nil)) ea_nil))))) PassesOwn.never rfl)
      (svs_one (sv_ret (en_sortedSet hu rfl T.b_sorted T.b_set (ev_name 2)).ev)))), fun cs ds P' hl hT => ?_⟩
  obtain ⟨n, most, hB, hn, rfl, hm, q⟩ := hT
  walk_at "tr"
  refine ⟨by decide, ?_⟩
  unfold wForR
  walk_at "tr"
  refine ⟨n, most + 1, hB, by omega, by simp, by omega, by omega, fun many cs1 hmany hB1 => ⟨by omega, by omega, fun k ρ => ∃ (cs' : List PyData) (ps : List (Str × Str)) (t : Sl), ρ = [.own true cs', .val (.int most), .own false (ps.map duoD), t] ∧ ps.length = k ∧ (∀ p ∈ ps, okS p.1 ∧ okS p.2) ∧ BoxOk (n + 1 + 2 * k) cs', ⟨cs1, [], .un, rfl, rfl, (by simp), hB1⟩, fun k ρ hk hI => ?_, fun ρ hI => ?_⟩⟩
  · obtain ⟨cs', ps, t, rfl, h1, h2, hB'⟩ := hI
    walk_at "tr"
    refine ⟨by decide, n + 1 + 2 * k, _, false, hB', by omega, rfl, by decide, by decide, fun x cs2 hx hB2 => ⟨by decide, n + 1 + 2 * k + 1, _, false, hB2, by omega, rfl, by decide, by decide, fun y cs3 hy hB3 => ⟨by decide, by rw [h1, sizeLine_eq]; omega, ?_⟩⟩⟩
    obtain ⟨a, rfl, ha⟩ : ∃ a : Str, x = .str a ∧ okS a := by
      simp only [List.mem_cons, List.not_mem_nil, or_false] at hx
      rcases hx with rfl | rfl | rfl | rfl <;> exact ⟨_, rfl, by decide +kernel, by decide +kernel, by decide +kernel⟩
    obtain ⟨b, rfl, hb⟩ : ∃ b : Str, y = .str b ∧ okS b := by
      simp only [List.mem_cons, List.not_mem_nil, or_false] at hy
      rcases hy with rfl | rfl | rfl | rfl <;> exact ⟨_, rfl, by decide +kernel, by decide +kernel, by decide +kernel⟩
    refine ⟨cs3, ps ++ [(a, b)], .val (.int k), by simp [duoD], by simp [h1], fun p hp => ?_, hB3.mono (by omega)⟩
    rcases List.mem_append.mp hp with hp | hp
    · exact h2 p hp
    · rw [List.mem_singleton.mp hp]
      exact ⟨ha, hb⟩
  · obtain ⟨cs', ps, t, rfl, h1, h2, hB'⟩ := hI
    walk_at "tr"
    have h1' : ps.length ≤ 3 := by simp at h1; omega
    refine ⟨ps, rfl, by omega, fun p hp => ⟨(h2 p hp).1.1, (h2 p hp).2.1⟩, fun qs hq hmem hle => ?_⟩
    exact q qs cs' hq (fun p hp => h2 p ((hmem p).mp hp)) (by omega) (hB'.mono (by simp at *; omega))
end
end K04
set_option Elab.async false
set_option linter.all false
set_option maxRecDepth 100000
set_option maxHeartbeats 4000000
namespace K04
open PySem PySem.Spec PyProof.Rows L2 Tr
variable [Tabbed]
local macro_rules | `(tactic| walk_at "tr") => `(tactic| simp only [Tr.Later, wRet, wRetN, wExpr, wAsg, wSet, wSetN, wPar, wParV0, wParN0, wAugI, wgNil, wgCons, wCall, wCall0, wCallM, wCallN, wIxO, wFn, wFn1, wFnN, wTuple1, wAppend, wPopAt, wSetO, wNeO, wIsN, wTup, wLst, wYes, wRep, wSliceL, wSliceT, wRev, ownAt, asInt, asNat, asList, asTuple, someOf, at0, at1, at2, at3, wIf, wB, wOp, wOpN, wName, wLook, wN, wC, wAnd, wOr, wNot, wAndV, wOrV, wNotV, wSeq, wNext, wIfS, wNil, wCons, wPart, wgSeq, gvName, wTurn, wipeE, gI, gI0, gEq, gNe, gLen, gIx, gInt, gAbs, gMin2, gList, gTup1, gAll, gCatL, gCatT, isNone, startE, startM, List.map_cons, List.map_nil, List.length_cons, List.length_nil, List.cons_append, List.nil_append, List.getElem?_cons_zero, List.getElem?_cons_succ, List.set_cons_zero, List.set_cons_succ, List.replicate, List.length_map, if_true, if_false, Bool.false_eq_true, reduceIte, List.mem_cons, List.not_mem_nil, or_false, forall_eq, forall_eq_or_imp, false_implies, implies_true, true_and, and_true, Option.bind_some, Option.map_some, Option.map_none, Int.reduceLT, Int.reduceLE, Int.reduceToNat, Int.toNat_zero, Int.toNat_one, Int.toNat_natCast, Nat.reduceAdd, Nat.reduceLT, decide_true, List.set, Int.add_zero, Int.zero_add])
structure Lib where
  own : Str
  needs : List Str
  defs : List (Str × Str)
  uses : List ((Str × Str) × Bool)
def Lib.d (l : Lib) : PyData := .tuple [.str l.own, .tuple (l.needs.map .str), .tuple (l.defs.map duoD), .tuple (l.uses.map useD)]
/-- a library as it is drawn -/
structure Lib.Ok (l : Lib) : Prop where
  own : okS l.own
  needs : (∀ x ∈ l.needs, okS x) ∧ l.needs.length ≤ 10
  defs : l.defs.Pairwise PairLt ∧ (∀ p ∈ l.defs, okS p.1 ∧ okS p.2) ∧ l.defs.length ≤ 4
  uses : (∀ u ∈ l.uses, okS u.1.1 ∧ okS u.1.2) ∧ l.uses.length ≤ 3
section
variable {P : Program} {w : World} {K : PySem.W.Frag} {mg : Str → Option Value} {base : Heap}
def tLib : TSm := fun cs ds Q => ∃ (n : Nat) (own : Str) (others : List Str) (b : Bool), BoxOk n cs ∧ n < 800000 ∧ ds = [.str own, .list (others.map .str), .bool b] ∧ okS own ∧ (∀ x ∈ others, okS x) ∧ others.length ≤ 10 ∧
  ∀ (l : Lib) cs', l.own = own → l.Ok → (∀ x ∈ l.needs, x ∈ others) → BoxOk (n + 40) cs' → Q l.d cs'
theorem ok_lib (T : Top K mg) : FnOk P w K mg base (L2.CX P w) 4 T.a_lib T.d_lib ["_law_box_here", "_law_own", "_law_others", "_law_is_main"] (spM K 3 tLib) := by
  refine fn_mut T.F_lib sc_lib rfl fun c A o s H E hr => ?_
  have nd := sc_lib.nd
  have hu := hr.units
  refine ⟨_, _, (svs_cons (sv_set 4 nd (ev_tuple1 T.b_tuple (ev_callM 0 (ok_some T) (hr.mono (by decide)) T.m_some T.F_some.kp T.B_some (ea_cons (en_lc (tt := tTest (tOp (rNeD K) _ _)) [("_law_one", 5)] rfl nd (ev_name 2) (blkOk_by (N := N_lib) (sc := defScope s_lib) (by decide +kernel)) (fun _ _ _ _ _ => (gv_name 5 nd)) (fun _ _ _ _ _ => ets_one (et_ne hu (ev_name 5) (ev_name 1))) (fun _ _ _ _ _ => (ev_name 5)) (by decide)).ev (ea_cons ev_int ea_nil)))))
      (svs_cons (sv_set 6 nd (ev_tuple1 T.b_tuple (ev_callM 0 (ok_pairs T) (hr.mono (by decide)) T.m_pairs T.F_pairs.kp T.B_pairs (ea_cons (ev_if (et_val (ev_name 3)) ev_int ev_int) ea_nil))))
      (svs_cons (sv_set 7 nd (ev_tuple1 T.b_tuple (en_lc (te := tOp (rCatA K) _ (tTup (tCons (tOp (rEqD K) (tCall (spM K 1 tTake) [] E0 _) _) tNil))) [("_law_pair", 8)] rfl nd (ev_callM 0 (ok_pairs T) (hr.mono (by decide)) T.m_pairs T.F_pairs.kp T.B_pairs (ea_cons ev_int ea_nil)) (blkOk_by (N := N_lib) (sc := defScope s_lib) (by decide +kernel)) (fun _ _ _ _ _ => (gv_name 8 nd)) (fun _ _ _ _ _ => ets_nil) (fun _ _ _ _ _ => (ev_catT (ev_name 8) (ev_tup (ea_cons (ev_eq hu (ev_callM 0 (ok_take T) (hr.mono (by decide)) T.m_take T.F_take.kp T.B_take (ea_cons ev_int ea_nil)) ev_int) ea_nil)))) (by decide)).ev))
      (svs_one (sv_ret (ev_tup (ea_cons (ev_name 1) (ea_cons (ev_name 4) (ea_cons (ev_name 6) (ea_cons (ev_name 7) ea_nil)))))))))), fun cs ds P' hl hT => ?_⟩
  obtain ⟨n, own, others, b, hB, hn, rfl, ho, hoth, hol, q⟩ := hT
  cases b
  all_goals
    walk_at "tr"
    unfold wLc
    refine ⟨false, ?_⟩
    walk_at "tr"
    refine ⟨others.map .str, rfl, fun k acc ρ => ∃ ys : List Str, acc = ys.map .str ∧ (∀ y ∈ ys, y ∈ others) ∧ ys.length ≤ k ∧ ρ = [.own true cs, .val (.str own), .val (.list (others.map .str)), .val (.bool _), .un, .un, .un, .un, .un], ⟨[], rfl, (by simp), Nat.le_refl _, rfl⟩, fun k x acc ρ hx hI => ?_, fun acc ρ hI => ?_⟩
    · obtain ⟨ys, rfl, h1, h2, rfl⟩ := hI
      obtain ⟨y, rfl, hy⟩ : ∃ y : Str, x = .str y ∧ y ∈ others := by
        have hm := List.mem_of_getElem? hx
        obtain ⟨y, hy, e⟩ := List.mem_map.mp hm
        exact ⟨y, e.symm, hy⟩
      have hk : k < others.length := by simpa using (List.getElem?_eq_some_iff.mp hx).1
      walk_at "tr"
      refine ⟨(good_str (n := 0) (hoth y hy).1).shaped (by decide), (good_str (n := 0) ho.1).shaped (by decide), ?_⟩
      rw [eqv_str]
      by_cases e : y = own
      · rw [if_neg (by simp [e])]
        exact ⟨ys, rfl, h1, by omega⟩
      · rw [if_pos (by simp [e])]
        refine ⟨by rw [sizeLine_eq]; omega, ys ++ [y], by simp, fun z hz => ?_, by simp; omega⟩
        rcases List.mem_append.mp hz with hz | hz
        · exact h1 z hz
        · rw [List.mem_singleton.mp hz]
          exact hy
    · obtain ⟨ys, rfl, h1, h2, rfl⟩ := hI
      walk_at "tr"
      refine ⟨n, 2, ys, false, hB, by omega, rfl, by decide, by simp at h2; omega, fun y hy => (hoth y (h1 y hy)).1, fun needs cs1 hnl hnm hB1 => ?_⟩
      refine ⟨n + 10, _, hB1, by omega, rfl, by decide, fun defs cs2 d1 d2 d3 hB2 => ?_⟩
      · refine ⟨false, ?_⟩
        try (walk_at "tr")
        refine ⟨n + 20, 3, hB2, by omega, rfl, by decide, fun ps cs3 u1 u2 u3 hB3 => ?_⟩
        refine ⟨ps.map duoD, rfl, fun k acc ρ => ∃ (us : List ((Str × Str) × Bool)) (cs4 : List PyData), acc = us.map useD ∧ (∀ u ∈ us, okS u.1.1 ∧ okS u.1.2) ∧ us.length ≤ k ∧ BoxOk (n + 30 + k) cs4 ∧ ρ = [.own true cs4, .val (.str own), .val (.list (others.map .str)), .val (.bool _), .val (.tuple (needs.map .str)), .un, .val (.tuple (defs.map duoD)), .un, .un], ⟨[], cs3, rfl, (by simp), Nat.le_refl _, hB3, rfl⟩, fun k x acc ρ hx hI => ?_, fun acc ρ hI => ?_⟩
        · obtain ⟨us, cs4, rfl, g1, g2, hB4, rfl⟩ := hI
          obtain ⟨p, rfl, hp⟩ : ∃ p : Str × Str, x = duoD p ∧ p ∈ ps := by
            have hm := List.mem_of_getElem? hx
            obtain ⟨y, hy, e⟩ := List.mem_map.mp hm
            exact ⟨y, e.symm, hy⟩
          have hk : k < ps.length := by simpa using (List.getElem?_eq_some_iff.mp hx).1
          walk_at "tr"
          refine ⟨n + 30 + k, 4, hB4, by omega, rfl, by decide, by decide, fun r cs5 hr5 hB5 => ⟨rfl, rfl, by decide, ?_⟩⟩
          simp only [duoD]
          walk_at "tr"
          refine ⟨by decide, by rw [sizeLine_eq]; omega, us ++ [(p, PyData.eqv (.int r) (.int 0))], cs5, by simp [useD], fun u hu' => ?_, by simp; omega, hB5.mono (by omega), rfl⟩
          rcases List.mem_append.mp hu' with hu' | hu'
          · exact g1 u hu'
          · rw [List.mem_singleton.mp hu']
            exact u2 p hp
        · obtain ⟨us, cs4, rfl, g1, g2, hB4, rfl⟩ := hI
          walk_at "tr"
          have g2' : us.length ≤ 3 := by simp at g2; omega
          exact ⟨by decide, q ⟨own, needs, defs, us⟩ cs4 rfl ⟨ho, ⟨fun x hx => hoth x (h1 x (hnm x hx)), by simpa using (by omega : needs.length ≤ 10)⟩, ⟨d1, d2, Nat.le_succ_of_le d3⟩, ⟨g1, g2'⟩⟩ (fun x hx => h1 x (hnm x hx)) (hB4.mono (by simp at *; omega))⟩
end
end K04
set_option Elab.async false
set_option linter.all false
set_option maxRecDepth 100000
set_option maxHeartbeats 4000000
namespace K04
open PySem PySem.Spec PyProof.Rows L2 Tr
variable [Tabbed]
local macro_rules | `(tactic| walk_at "tr") => `(tactic| simp only [wRet, wRetN, wExpr, wAsg, wSet, wSetN, wPar, wParV0, wParN0, wAugI, wgNil, wgCons, wCall, wCall0, wCallM, wCallN, wIxO, wFn, wFn1, wFnN, wTuple1, wAppend, wPopAt, wSetO, wNeO, wIsN, wTup, wLst, wYes, wRep, wSliceL, wSliceT, wRev, ownAt, asInt, asNat, asList, asTuple, someOf, at0, at1, at2, at3, wIf, wB, wOp, wOpN, wName, wLook, wN, wC, wAnd, wOr, wNot, wAndV, wOrV, wNotV, wSeq, wNext, wIfS, wNil, wCons, wPart, wgSeq, gvName, wTurn, wipeE, gI, gI0, gEq, gNe, gLen, gIx, gInt, gAbs, gMin2, gList, gTup1, gAll, gCatL, gCatT, isNone, startE, startM, List.map_cons, List.map_nil, List.length_cons, List.length_nil, List.cons_append, List.nil_append, List.getElem?_cons_zero, List.getElem?_cons_succ, List.set_cons_zero, List.set_cons_succ, List.replicate, List.length_map, if_true, if_false, Bool.false_eq_true, reduceIte, List.mem_cons, List.not_mem_nil, or_false, forall_eq, forall_eq_or_imp, false_implies, implies_true, true_and, and_true, Option.bind_some, Option.map_some, Option.map_none, Int.reduceLT, Int.reduceLE, Int.reduceToNat, Int.toNat_zero, Int.toNat_one, Int.toNat_natCast, Nat.reduceAdd, Nat.reduceLT, decide_true, List.set, Int.add_zero, Int.zero_add])
structure Plot where
  libs : List Lib
  early : List Str
  doors : List (Str × Str)
def Plot.d (p : Plot) : PyData := .tuple [.tuple (p.libs.map Lib.d), .tuple (p.early.map .str), .tuple (p.doors.map duoD)]
/-- a program as it is drawn -/
structure Plot.Ok (p : Plot) : Prop where
  libs : (∀ l ∈ p.libs, l.Ok ∧ l.own ∈ pool) ∧ p.libs.length ≤ 10 ∧ (p.libs.map (·.own)).Nodup ∧ 0 < p.libs.length
  early : (∀ x ∈ p.early, okS x) ∧ p.early.length ≤ 10
  doors : (∀ x ∈ p.doors, okS x.1 ∧ okS x.2) ∧ p.doors.length ≤ 10
section
variable {P : Program} {w : World} {K : PySem.W.Frag} {mg : Str → Option Value} {base : Heap}
def tProgram : TSm := fun cs ds Q => ∃ (n most gates : Nat), BoxOk n cs ∧ n < 700000 ∧ ds = [.int most, .int gates] ∧ 0 < most ∧ most ≤ 8 ∧ 0 < gates ∧ gates ≤ 8 ∧ ∀ (p : Plot) cs', p.Ok → BoxOk (n + 600) cs' → Q p.d cs'
theorem ok_program (T : Top K mg) : FnOk P w K mg base (L2.CX P w) 5 T.a_program T.d_program ["_law_box_here", "_law_most", "_law_gates"] (spM K 2 tProgram) := by
  refine fn_mut T.F_program sc_program rfl fun c A o s H E hr => ?_
  have nd := sc_program.nd
  have hu := hr.units
  have hu5 : (A.deeper (envOfC "_law_program" (defScope s_program) s.heap.objs.size T.a_program c)).units + 65 < cLine := by have := hr.un; omega
  refine ⟨_, _, (svs_cons (sv_set 3 nd (ev_callM 0 (ok_names T) (hr.mono (by decide)) T.m_names T.F_names.kp T.B_names (ea_cons (ev_add ev_int (ev_callM 0 (ok_take T) (hr.mono (by decide)) T.m_take T.F_take.kp T.B_take (ea_cons (ev_name 1) ea_nil))) ea_nil)))
      (svs_cons (sv_parV0 4 5 rfl nd (en_slice (ev_name 3) (eo_some ev_int) eo_none).ev)
      (svs_cons (sv_for (ev_name 3) (gv_name 6 nd) (svs_one (sv_append 5 (ev_callM 0 (ok_lib T) (hr.mono (by decide)) T.m_lib T.F_lib.kp T.B_lib (ea_cons (ev_name 6) (ea_cons (ev_name 4) (ea_cons (ev_eq hu (ev_name 6) (ev_ix (ev_name 3) ev_int)) ea_nil)))))) PassesOwn.never rfl)
      (svs_cons (sv_set 7 nd (en_lst ea_nil).ev)
      (svs_cons (sv_forR T.b_range (ev_add ev_int (ev_callM 0 (ok_take T) (hr.mono (by decide)) T.m_take T.F_take.kp T.B_take (ea_cons (ev_name 2) ea_nil))) (gv_name 8 nd) (svs_cons (sv_set 9 nd (ev_tup (ea_cons (ev_callM 0 (ok_pick T) (hr.mono (by decide)) T.m_pick T.F_pick.kp T.B_pick (ea_cons (ev_name 4) ea_nil)) (ea_cons (ev_callM 0 (ok_pick T) (hr.mono (by decide)) T.m_pick T.F_pick.kp T.B_pick (ea_cons (en_lst (ea_cons ev_str (ea_cons ev_str (ea_cons ev_str (ea_cons ev_str ea_nil))))).ev ea_nil)) ea_nil))))
      (svs_one (sv_set 7 nd (en_catL (ev_name 7) (en_rep (en_lst (ea_cons (ev_name 9) ea_nil)) (ev_int1 T.b_int (ea_cons (ev_notIn hu5 (ev_name 9) (ev_name 7)) ea_nil))).ev).ev))) PassesOwn.never rfl)
      (svs_cons (sv_set 10 nd (ev_if (et_eq hu (ev_callM 0 (ok_take T) (hr.mono (by decide)) T.m_take T.F_take.kp T.B_take (ea_cons ev_int ea_nil)) ev_int) (ev_callM 0 (ok_some T) (hr.mono (by decide)) T.m_some T.F_some.kp T.B_some (ea_cons (ev_name 4) (ea_cons (ev_add ev_int (ev_int1 T.b_int (ea_cons (ev_eq hu (ev_callM 0 (ok_take T) (hr.mono (by decide)) T.m_take T.F_take.kp T.B_take (ea_cons ev_int ea_nil)) ev_int) ea_nil))) ea_nil))) (en_lst ea_nil).ev))
      (svs_one (sv_ret (ev_tup (ea_cons (ev_tuple1 T.b_tuple (ev_name 5)) (ea_cons (ev_tuple1 T.b_tuple (ev_name 10)) (ea_cons (ev_tuple1 T.b_tuple (ev_name 7)) ea_nil)))))))))))), fun cs ds P' hl hT => ?_⟩
  obtain ⟨n, most, gates, hB, hn, rfl, hm0, hm, hg0, hg, q⟩ := hT
  walk_at "tr"
  refine ⟨n, most, hB, by omega, rfl, hm0, by omega, fun many cs1 hmany hB1 => ?_⟩
  refine ⟨n + 1, 2 + many, hB1, by omega, by simp, by omega, fun xs cs2 hxl hnd hpool hB2 => ?_⟩
  obtain ⟨x0, others, rfl⟩ : ∃ x0 others, xs = x0 :: others := by
    cases xs with
    | nil => simp at hxl; omega
    | cons x0 others => exact ⟨x0, others, rfl⟩
  have okx : ∀ x ∈ x0 :: others, okS x := fun x hx => pool_ok x (hpool x hx)
  have hol : others.length = 1 + many := by simp at hxl; omega
  have good1 : ∀ l : List Str, (∀ x ∈ l, okS x) → Good 1 (.list (l.map PyData.str)) := fun l hl => good_list fun d hd => by
    obtain ⟨x, hx, rfl⟩ := List.mem_map.mp hd
    exact good_str (hl x hx).1
  refine Tr.Later.now ?_
  walk_at "tr"
  rw [show Tr.cutD (.str x0 :: others.map PyData.str) (some 1) none = others.map PyData.str by
    show Tr.cutD _ (some ((1 : Nat) : Int)) none = _
    unfold Tr.cutD
    rw [HT.sIx_none, HT.sIx_nat, List.length_cons, List.length_map, Nat.min_eq_left (by omega), show others.length + 1 - 1 = others.length by omega]
    show (others.map PyData.str).take others.length = _
    exact List.take_of_length_le (by rw [List.length_map]; exact Nat.le_refl _)]
  refine Tr.Later.now ?_
  walk_at "tr"
  unfold wFor
  refine ⟨false, ?_⟩
  walk_at "tr"
  refine ⟨(x0 :: others).map .str, rfl, fun k ρ => ∃ (cs' : List PyData) (libs : List Lib) (t : Sl), ρ = [.own true cs', .val (.int most), .val (.int gates), .val (.list ((x0 :: others).map .str)), .val (.list (others.map .str)), .own false (libs.map Lib.d), t, .un, .un, .un, .un] ∧ libs.map (·.own) = (x0 :: others).take k ∧ (∀ l ∈ libs, l.Ok) ∧ BoxOk (n + 11 + 40 * k) cs', ⟨cs2, [], .un, rfl, rfl, (by simp), hB2.mono (by omega)⟩, fun k x ρ hx hI => ?_, fun ρ hI => ?_⟩
  · obtain ⟨cs', libs, t, rfl, h1, h2, hB'⟩ := hI
    obtain ⟨y, rfl, hy⟩ : ∃ y : Str, x = .str y ∧ (x0 :: others)[k]? = some y := by
      rw [List.getElem?_map] at hx
      cases e : (x0 :: others)[k]? with
      | none => rw [e] at hx; cases hx
      | some y => rw [e] at hx; exact ⟨y, (Option.some.inj hx).symm, rfl⟩
    have hk : k < (x0 :: others).length := (List.getElem?_eq_some_iff.mp hy).1
    have hk10 : k < 10 := by simp at hk; omega
    have hlen : libs.length = k := by
      have := congrArg List.length h1
      rw [List.length_map, List.length_take] at this
      omega
    have my := List.mem_of_getElem? hy
    refine Tr.Later.now ?_
    walk_at "tr"
    refine ⟨(good_str (n := 0) (okx y my).1).shaped (by decide), (good_str (n := 0) (okx x0 (.head _)).1).shaped (by decide), n + 11 + 40 * k, y, others, _, hB', by omega, rfl, okx y my, fun x hx => okx x (.tail _ hx), by omega, fun l cs3 e1 e2 e3 hB3 => ⟨by rw [hlen, sizeLine_eq]; omega, cs3, libs ++ [l], _, by simp; rfl, ?_, fun l2 hl2 => ?_, hB3.mono (by omega)⟩⟩
    · rw [List.map_append, h1, take_one hy, List.map_singleton, e1]
    · rcases List.mem_append.mp hl2 with z | z
      · exact h2 l2 z
      · rw [List.mem_singleton.mp z]
        exact e2
  · obtain ⟨cs3, libs, t, rfl, h1, h2, hB3⟩ := hI
    rw [List.length_map, List.take_length] at h1
    have hll : libs.length = 2 + many := by
      have := congrArg List.length h1
      rw [List.length_map, hxl] at this
      exact this
    replace hB3 : BoxOk (n + 411) cs3 := hB3.mono (by rw [List.length_map, hxl]; omega)
    refine Tr.Later.now ?_
    walk_at "tr"
    refine ⟨by decide, ?_⟩
    refine Tr.Later.now ?_
    walk_at "tr"
    unfold wForR
    walk_at "tr"
    refine ⟨n + 411, gates, hB3, by omega, rfl, hg0, by omega, fun turns cs4 hturns hB4 => ⟨by omega, by omega, fun k ρ => ∃ (cs' : List PyData) (doors : List (Str × Str)) (t8 t9 : Sl), ρ = [.own true cs', .val (.int most), .val (.int gates), .val (.list ((x0 :: others).map .str)), .val (.list (others.map .str)), .own false (libs.map Lib.d), t, .val (.list (doors.map duoD)), t8, t9, .un] ∧ doors.length ≤ k ∧ (∀ x ∈ doors, okS x.1 ∧ okS x.2) ∧ BoxOk (n + 412 + 2 * k) cs', ⟨cs4, [], .un, .un, rfl, Nat.le_refl _, (by simp), hB4⟩, fun k ρ hk hI => ?_, fun ρ hI => ?_⟩⟩
    · obtain ⟨cs', doors, t8, t9, rfl, g1, g2, hB'⟩ := hI
      refine Tr.Later.now ?_
      walk_at "tr"
      refine ⟨n + 412 + 2 * k, _, false, hB', by omega, rfl, by rw [List.length_map]; omega, by rw [List.length_map]; omega, fun x cs6 hx hB6 => ⟨by decide, n + 412 + 2 * k + 1, _, false, hB6, by omega, rfl, by decide, by decide, fun y cs7 hy hB7 => ⟨by decide, ?_⟩⟩⟩
      obtain ⟨a, rfl, ha⟩ : ∃ a : Str, x = .str a ∧ okS a := by
        obtain ⟨a, m, e⟩ := List.mem_map.mp hx
        exact ⟨a, e.symm, okx a (.tail _ m)⟩
      obtain ⟨b, rfl, hb⟩ : ∃ b : Str, y = .str b ∧ okS b := by
        simp only [List.mem_cons, List.not_mem_nil, or_false] at hy
        rcases hy with rfl | rfl | rfl | rfl <;> exact ⟨_, rfl, by decide +kernel, by decide +kernel, by decide +kernel⟩
      have good2 : ∀ p : Str × Str, okS p.1 ∧ okS p.2 → Good 1 (duoD p) := fun p hp => good_tuple fun d hd => by
        simp only [List.mem_cons, List.not_mem_nil, or_false] at hd
        rcases hd with rfl | rfl
        · exact good_str hp.1.1
        · exact good_str hp.2.1
      refine Tr.Later.now ?_
      walk_at "tr"
      refine ⟨by decide, false, doors.map duoD, rfl, (good2 (a, b) ⟨ha, hb⟩).shaped (by decide), (good_list (n := 1) fun d hd => ?_).shaped (by decide), ?_⟩
      · obtain ⟨p, m, rfl⟩ := List.mem_map.mp hd
        exact good2 p (g2 p m)
      · generalize (if true = true then !(doors.map duoD).any fun z => z.eqv (PyData.tuple [PyData.str a, PyData.str b]) else (doors.map duoD).any fun z => z.eqv (PyData.tuple [PyData.str a, PyData.str b])) = bb
        cases bb
        · walk_at "tr"
          refine ⟨by decide, by simp; rw [sizeLine_eq]; omega, cs7, doors, _, _, by simp; exact ⟨rfl, rfl⟩, by omega, g2, hB7.mono (by omega)⟩
        · walk_at "tr"
          refine ⟨by decide, by simp; rw [sizeLine_eq]; omega, cs7, doors ++ [(a, b)], _, _, by simp [duoD]; exact ⟨rfl, rfl⟩, by simp; omega, fun p hp => ?_, hB7.mono (by omega)⟩
          rcases List.mem_append.mp hp with z | z
          · exact g2 p z
          · rw [List.mem_singleton.mp z]
            exact ⟨ha, hb⟩
    · obtain ⟨cs5, doors, t8, t9, rfl, g1, g2, hB5⟩ := hI
      have g3 : doors.length ≤ 8 := by omega
      replace hB5 : BoxOk (n + 428) cs5 := hB5.mono (by omega)
      refine Tr.Later.now ?_
      walk_at "tr"
      have okP : ∀ early : List Str, (∀ x ∈ early, okS x) → early.length ≤ 10 → Plot.Ok ⟨libs, early, doors⟩ := fun early he hel => by
        refine ⟨⟨fun l hl => ⟨h2 l hl, ?_⟩, by show libs.length ≤ 10; omega, by show (libs.map (·.own)).Nodup; rw [h1]; exact hnd, by show 0 < libs.length; omega⟩, ⟨he, hel⟩, ⟨g2, ?_⟩⟩
        · refine hpool _ ?_
          rw [← h1]
          exact List.mem_map_of_mem hl
        · show doors.length ≤ 10
          omega
      refine ⟨n + 428, 2, hB5.mono (by omega), by omega, rfl, by decide, by decide, fun r cs6 hr hB6 => ⟨(good_int (n := 0) _).shaped (by decide), (good_int (n := 0) _).shaped (by decide), ?_⟩⟩
      rw [eqv_int]
      split
      · refine ⟨n + 429, 4, hB6.mono (by omega), by omega, rfl, by decide, by decide, fun r2 cs7 hr2 hB7 => ⟨(good_int (n := 0) _).shaped (by decide), (good_int (n := 0) _).shaped (by decide), ?_⟩⟩
        rw [eqv_int]
        obtain ⟨c2, hc2, e2⟩ : ∃ c2 : Nat, c2 ≤ 2 ∧ (1 + if decide ((r2 : Int) = 0) = true then (1 : Int) else 0) = (c2 : Int) := by
          split
          · exact ⟨2, by omega, by omega⟩
          · exact ⟨1, by omega, by omega⟩
        rw [e2]
        refine ⟨n + 430, c2, others, false, hB7.mono (by omega), by omega, rfl, by omega, by omega, fun x hx => (okx x (.tail _ hx)).1, fun early cs8 he1 he2 hB8 => ?_⟩
        refine Tr.Later.now ?_
        walk_at "tr"
        exact ⟨by decide, q ⟨libs, early, doors⟩ cs8 (okP early (fun x hx => okx x (.tail _ (he2 x hx))) (by omega)) (hB8.mono (by omega))⟩
      · refine ⟨by decide, ?_⟩
        refine Tr.Later.now ?_
        walk_at "tr"
        exact ⟨by decide, q ⟨libs, [], doors⟩ cs6 (okP [] (by simp) (by simp)) (hB6.mono (by omega))⟩
end
end K04
set_option Elab.async false
set_option linter.all false
set_option maxRecDepth 100000
set_option maxHeartbeats 2000000
/-! TrR: x[::-1] of a tuple -/
namespace Tr
open PySem PySem.Spec PyProof.Rows L2 HT
variable [Tabbed]
section
variable {P : Program} {w : World} {A : Around} {E : Value → Shared → Prop} {s : Shared}
theorem apply_back {sl : Addr} {vk : Value} {n : Nat} {Q : Int × Int × Nat → Shared → Prop} (hs : s.heap.IsSliceOf sl .none .none vk) (pk : IsPart vk (some (-1))) (q : Q ((n : Int) - 1, -1, n) s) :
    wpAny (model P w) A (Builtin.Slice.sliceApplied (.ref sl) (pure (n : Int))) Q E s := by
  obtain ⟨os, h1, h2, h3⟩ := hs
  unfold Builtin.Slice.sliceApplied; unfold Builtin.Slice.sliceFields
  refine wpAny_bind (wpAny_bind (wpAny_field h1 h3 (x := .none) rfl (wpAny_bind (wpAny_field h1 h3 (x := .none) rfl (wpAny_bind (wpAny_field h1 h3 (x := vk) rfl (wpAny_pure ?_)))))))
  refine wpAny_bind (slicePart_ pk ?_)
  show wpAny _ _ (if ((-1 : Int) == 0) = true then _ else _) _ _ s
  rw [if_neg (by decide)]
  refine wpAny_bind (slicePart_none (wpAny_bind (slicePart_none (wpAny_bind (wpAny_pure ?_)))))
  have e : Builtin.Slice.sliceAdjust none none (-1) (n : Int) = ((n : Int) - 1, -1) := rfl
  have e2 : Builtin.Slice.slicePlaces ((n : Int) - 1) (-1) (-1) = n := by
    unfold Builtin.Slice.slicePlaces
    have z1 : ¬ (-1 : Int) > 0 := by omega
    simp only [z1, if_false, Int.neg_neg, Int.ediv_one]
    split <;> omega
  show wpAny _ _ (match Builtin.Slice.sliceAdjust none none (-1) (n : Int) with | (lo, hi) => pure (lo, (-1 : Int), Builtin.Slice.slicePlaces lo hi (-1))) _ _ s
  rw [e]
  show wpAny _ _ (pure ((n : Int) - 1, (-1 : Int), Builtin.Slice.slicePlaces ((n : Int) - 1) (-1) (-1))) _ _ s
  rw [e2]
  exact wpAny_pure q
theorem fm_same {α β : Type} {f g : α → Option β} : ∀ l : List α, (∀ x ∈ l, f x = g x) → l.filterMap f = l.filterMap g
  | [], _ => rfl
  | x :: l, h => by
    rw [List.filterMap_cons, List.filterMap_cons, h x (.head _), fm_same l fun y hy => h y (.tail _ hy)]
theorem pick_back (xs : Array Value) : ((List.range xs.size).filterMap fun (m : Nat) => xs[(((xs.size : Int) - 1) + (m : Int) * (-1)).toNat]?).toArray = xs.toList.reverse.toArray := by
  congr 1
  have e : (List.range xs.size).filterMap (fun (m : Nat) => xs[(((xs.size : Int) - 1) + (m : Int) * (-1)).toNat]?) = ((List.range xs.size).map fun m => xs.size - 1 - m).filterMap (xs[·]?) := by
    rw [List.filterMap_map]
    refine fm_same _ fun m hm => ?_
    have := List.mem_range.mp hm
    show xs[_]? = xs[xs.size - 1 - m]?
    rw [show (((xs.size : Int) - 1) + (m : Int) * (-1)).toNat = xs.size - 1 - m by omega]
  rw [e, PySem.W.krv_range, List.filterMap_reverse, PySem.W.krv_all]
theorem item_back {t sl : Addr} {its : Array Value} {vk : Value} {Q : Value → Shared → Prop} (ht : IsTup s.heap t its) (hs : s.heap.IsSliceOf sl .none .none vk) (pk : IsPart vk (some (-1))) (hz : its.size ≤ sizeLine)
    (q : Q (.ref s.heap.objs.size) { s with heap := s.heap.push { cls := .type "tuple", data := .seq its.toList.reverse.toArray } }) : wpAny (model P w) A (getItem (.ref t) (.ref sl)) Q E s := by
  have fit : sizeOk (.seq its.toList.reverse.toArray) := by
    show its.toList.reverse.toArray.size ≤ sizeLine
    simpa using hz
  obtain ⟨os, h1, h2, h3⟩ := id hs
  have tyS : s.TypeIs (.ref sl) "slice" := ⟨os, h1, h2⟩
  unfold getItem
  try with_reducible refine wpAny_holding ?_
  try refine wpAny_bind (wpAny_pure ?_)
  refine wpAny_bind (wpAny_sequenceKey ht.typeIs (by decide) (wpAny_bind (wpAny_callSpecial?_slot (name := Str.ofString "__getitem__") ht.typeIs PyProof.Rows.slot_tuple_getitem
    (wpAny_call_entry PyProof.Rows.slot_tuple_getitem ht.typeIs entry_tuple_getitem ?_ (args_tuple_getitem _ _)))))
  refine (show wpAny _ _ (Builtin.Tuple.tupleItemsOf (.ref t) >>= _) _ _ s from ?_)
  refine wpAny_bind (tupleItemsOf_ ht (wpAny_bind (wpAny_typeOf tyS ?_)))
  rw [if_pos (by decide)]
  refine wpAny_bind (apply_back hs pk ?_)
  have no : ¬ ((((its.size : Int) - 1) == 0 && (-1 : Int) == 1 && its.size == its.size) = true) := by simp
  show wpAny _ _ (if (((its.size : Int) - 1) == 0 && (-1 : Int) == 1 && its.size == its.size) = true then _ else _) _ _ s
  rw [if_neg no, pick_back]
  first
    | exact wpAny_bind (m := Builtin.Tuple.tupleExact _) (wpAny_newObj_type (wpAny_pure ⟨_, rfl, wpAny_pure q⟩) fit)
    | exact wpAny_bind (wpAny_bind (m := Builtin.Tuple.tupleExact _) (wpAny_newObj_type (wpAny_pure ⟨_, rfl, wpAny_pure q⟩) fit))
    | exact wpAny_bind (wpAny_bind (m := Builtin.Tuple.tupleExact _) (wpAny_newObj_type (wpAny_pure (wpAny_pure ⟨_, rfl, wpAny_pure q⟩)) fit))
    | exact wpAny_bind (m := Builtin.Tuple.tupleExact _) (wpAny_newObj_type (wpAny_bind (wpAny_pure (wpAny_pure ⟨_, rfl, wpAny_pure q⟩))) fit)
end
def tRevT (K : PySem.W.Frag) (te : TE) : TE := fun σ H Q => te σ H fun x H1 => ∃ (a : Addr) (xs : List V), x = .ref a ∧ SqT K H1 a xs ∧ ∀ p, H1 p = none → Q (.ref p) (upd H1 p (.tup xs.reverse))
section
variable {X : Cx} {a : Expr} {ta : TE} {wa : W1} {k : Nat} {p1 p3 p4 pos : Pos}
theorem pe_revT (he : PE X a ta) : PE X (.Subscript a (.Slice none none (some (.UnaryOp .USub (.Constant (.int 1) k p1) p3)) p4) pos) (tRevT X.K ta) := by
  refine ⟨fun pins s σ H Q I h => Subscript_ (thn (he.run pins s σ H _ I h) ?_)⟩
  rintro v s1 ⟨x, H1, I1, r1, t, xs, rfl, hx, q⟩
  cases r1
  have step : PO X (some (.UnaryOp .USub (.Constant (.int 1) k p1) p3)) (tPart (tUn (rU fun i => .int (-i)) (tC (.int 1)))) := po_some (pe_un un_neg pe_int)
  refine wpAny_Slice (thn (po_none.run pins s1 σ H1 (fun o H2 => o = none ∧ H2 = H1) I1 ⟨rfl, rfl⟩) ?_)
  rintro v1 s2 ⟨l, H2, I2, pl, rfl, rfl⟩
  refine thn (po_none.run pins s2 σ H2 (fun o H3 => o = none ∧ H3 = H2) I2 ⟨rfl, rfl⟩) ?_
  rintro v2 s3 ⟨u, H3, I3, pu, rfl, rfl⟩
  refine thn (step.run pins s3 σ H3 (fun o H4 => o = some (-1) ∧ H4 = H3) I3 ⟨1, rfl, -1, rfl, rfl, rfl⟩) ?_
  rintro v3 s4 ⟨o, H4, I4, ps, rfl, rfl⟩
  cases pl
  cases pu
  have I5 : Inv X pins σ H4 { s4 with heap := s4.heap.push { cls := .type "slice", data := .fields #[.none, .none, v3] } } := I4.kept (t' := s4.toks) fun b u e => Heap.get?_push_of_some _ e
  obtain ⟨its, r, ht, hz⟩ := I5.tuple hx
  have ln := r.length
  refine tail_any (s := { s4 with heap := s4.heap.push { cls := .type "slice", data := .fields #[.none, .none, v3] } }) (ops := [.ref t, .ref s4.heap.objs.size]) ht.typeIs (PyProof.Rows.slot_tuple_getitem.lookup) ?_ (by with_unfolding_all rfl)
  refine item_back ht (Heap.IsSliceOf.new _ .none .none v3) ps (by rw [List.size_toArray]; omega) ?_
  exact ⟨.ref _, _, I5.laid (t' := s4.toks) (o := .tup xs.reverse) (fun b u e => Heap.get?_push_of_some _ e) (Nat.le_refl _) ⟨by rw [List.length_reverse]; exact hz, _, r.reverse, IsTup.new _ _⟩, rfl, q _ (I5.hok.fresh (Nat.le_refl _))⟩
def wRevT (wa : W1) : W1 := fun ρ P => wa ρ fun d ρ1 => asTuple d fun ds => P (.tuple ds.reverse) ρ1
theorem ev_revT (ha : EV X a ta wa) : EV X (.Subscript a (.Slice none none (some (.UnaryOp .USub (.Constant (.int 1) k p1) p3)) p4) pos) (tRevT X.K ta) (wRevT wa) := ⟨pe_revT ha.pe, fun F ρ P σ S H Q hw R q =>
  ha.sd F ρ _ σ S H _ hw R fun d ρ1 v S1 H1 h1 R1 s1 d1 => by
    obtain ⟨ds, rfl, hp⟩ := h1.out
    cases d1 with
    | tup sq hd => exact ⟨_, _, rfl, same_sqT R1.sub sq, fun p n => q _ ρ1 _ _ _ hp (R1.new n (.tup _)) (s1.trans (same_new (same_none R1.sub n))) (.tup (SqT.of upd_same) (dpAll_mono (same_new (same_none R1.sub n)) _ _ hd.reverse))⟩⟩
end
end Tr
set_option Elab.async false
set_option linter.all false
set_option maxRecDepth 100000
set_option maxHeartbeats 4000000
namespace K04
open PySem PySem.Spec PyProof.Rows L2 Tr
variable [Tabbed]
local macro_rules | `(tactic| walk_at "tr") => `(tactic| simp only [wRet, wRetN, wExpr, wAsg, wSet, wSetN, wPar, wParV0, wParN0, wAugI, wgNil, wgCons, wCall, wCall0, wCallM, wCallN, wIxO, wFn, wFn1, wFnN, wTuple1, wAppend, wPopAt, wSetO, wNeO, wIsN, wTup, wLst, wYes, wRep, wSliceL, wSliceT, wRev, wRevT, ownAt, asInt, asNat, asList, asTuple, someOf, at0, at1, at2, at3, wIf, wB, wOp, wOpN, wName, wLook, wN, wC, wAnd, wOr, wNot, wAndV, wOrV, wNotV, wSeq, wNext, wIfS, wNil, wCons, wPart, wgSeq, gvName, wTurn, wipeE, gI, gI0, gEq, gNe, gLen, gIx, gInt, gAbs, gMin2, gList, gTup1, gAll, gCatL, gCatT, isNone, startE, startM, List.map_cons, List.map_nil, List.length_cons, List.length_nil, List.cons_append, List.nil_append, List.getElem?_cons_zero, List.getElem?_cons_succ, List.set_cons_zero, List.set_cons_succ, List.replicate, List.length_map, if_true, if_false, Bool.false_eq_true, reduceIte, List.mem_cons, List.not_mem_nil, or_false, forall_eq, forall_eq_or_imp, false_implies, implies_true, true_and, and_true, Option.bind_some, Option.map_some, Option.map_none, Int.reduceLT, Int.reduceLE, Int.reduceToNat, Int.toNat_zero, Int.toNat_one, Int.toNat_natCast, Nat.reduceAdd, Nat.reduceLT, decide_true, List.set, Int.add_zero, Int.zero_add])
section
variable {P : Program} {w : World} {K : PySem.W.Frag} {mg : Str → Option Value} {base : Heap}
/-- one of both is the other, or says nothing -/
def fits (v u : Str) : Bool := decide (v = u) || (decide (v = "") || decide (u = ""))
theorem shaped_str {x : Str} (h : okS x) : SeqAt.shaped (.str x) = true := (good_str (n := 0) h.1).shaped (by decide)
theorem okS_empty : okS "" := ⟨by decide +kernel, by decide +kernel, by decide +kernel⟩
def tServes : TSp := fun ds Q => ∃ v u : Str, ds = [.str v, .str u] ∧ okS v ∧ okS u ∧ Q (.bool (fits v u))
theorem ok_serves (T : Top K mg) : FnOk P w K mg base (L2.CX P w) 1 T.a_serves T.d_serves ["version", "wanted"] (spV K 2 tServes) := by
  refine fn_pure T.F_serves sc_serves rfl fun c A o s H E hr => ?_
  have nd := sc_serves.nd
  have hu := hr.units
  refine ⟨_, _, (svs_one (sv_ret (ev_or (ev_eq hu (ev_name 0) (ev_name 1)) (ev_or (ev_eq hu (ev_name 0) ev_str) (ev_one (ev_eq hu (ev_name 1) ev_str)))))), fun ds P' hl hT => ?_⟩
  obtain ⟨v, u, rfl, hv, hu', q⟩ := hT
  have ev := shaped_str hv
  have eu := shaped_str hu'
  have ee := shaped_str okS_empty
  walk_at "tr"
  refine ⟨ev, eu, ?_⟩
  unfold fits at q
  simp only [eqv_str]
  by_cases h1 : v = u
  · simp only [h1, decide_true, Bool.true_or] at q ⊢
    exact q
  · by_cases h2 : v = ""
    · simp only [h1, h2, decide_true, decide_false, Bool.true_or, Bool.false_or, Bool.or_true] at q ⊢
      by_cases h3 : ("" : Str) = u
      · exact absurd (h2.trans h3) h1
      · rw [decide_eq_false h3]
        exact ⟨ee, ee, q⟩
    · simp only [h1, h2, decide_true, decide_false, Bool.true_or, Bool.false_or] at q ⊢
      exact ⟨ev, ee, eu, ee, q⟩
def firstFit (defs : List (Str × Str)) (sym ver : Str) : Option Str := (defs.find? fun p => decide (p.1 = sym) && fits p.2 ver).map Prod.snd
theorem firstFit_cons (p : Str × Str) (ds : List (Str × Str)) (sym ver : Str) : firstFit (p :: ds) sym ver = if (decide (p.1 = sym) && fits p.2 ver) = true then some p.2 else firstFit ds sym ver := by
  unfold firstFit
  rw [List.find?_cons]
  cases (decide (p.1 = sym) && fits p.2 ver) <;> rfl
def dueOf (defs : List (Str × Str)) (sym ver : Str) : Option Str := if (sym, ver) ∈ defs then some ver else firstFit defs sym ver
def optD : Option Str → PyData
  | none => .none
  | some v => .str v
def tDue : TSp := fun ds Q => ∃ (l : Lib) (sym ver : Str) (b : Bool), l.Ok ∧ ds = [l.d, .tuple [.str sym, .str ver, .bool b]] ∧ okS sym ∧ okS ver ∧ Q (optD (dueOf l.defs sym ver))
theorem ok_due (T : Top K mg) : FnOk P w K mg base (L2.CX P w) 1 T.a_due T.d_due ["_law_lib_here", "_law_want"] (spV K 2 tDue) := by
  refine fn_pure T.F_due sc_due rfl fun c A o s H E hr => ?_
  have nd := sc_due.nd
  have hu := hr.units
  have hu5 : (A.deeper (envOfC "_law_due" (defScope s_due) s.heap.objs.size T.a_due c)).units + 65 < cLine := by have := hr.un; omega
  refine ⟨_, _, (svs_cons (sv_set 2 nd ev_non)
      (svs_cons (sv_for (ev_revT (ev_ix (ev_name 0) ev_int)) (gv_seq rfl (gvs_cons (gv_name 3 nd) (gvs_cons (gv_name 4 nd) gvs_nil))) (svs_one (sv_if (ew_and (et_eq hu (ev_name 3) (ev_ix (ev_name 1) ev_int)) (ew_and1 (ew_or (et_eq hu (ev_name 4) (ev_ix (ev_name 1) ev_int)) (ew_or (et_eq hu (ev_name 4) ev_str) (ew_or1 (et_eq hu (ev_ix (ev_name 1) ev_int) ev_str)))).et)).et (svs_one (sv_set 2 nd (ev_name 4))) svs_nil)) PassesOwn.never rfl)
      (svs_one (sv_ret (ev_if (et_in hu5 (ev_tup (ea_cons (ev_ix (ev_name 1) ev_int) (ea_cons (ev_ix (ev_name 1) ev_int) ea_nil))) (ev_ix (ev_name 0) ev_int)) (ev_ix (ev_name 1) ev_int) (ev_name 2)))))), fun ds P' hl hT => ?_⟩
  obtain ⟨l, sym, ver, b, hL, rfl, hs, hv, q⟩ := hT
  walk_at "tr"
  refine Tr.Later.now ?_
  walk_at "tr"
  unfold wFor
  refine ⟨true, ?_⟩
  simp only [Lib.d]
  walk_at "tr"
  rw [← List.map_reverse]
  have okd : ∀ p ∈ l.defs.reverse, okS p.1 ∧ okS p.2 := fun p hp => hL.defs.2.1 p (List.mem_reverse.mp hp)
  have ss := shaped_str hs
  have sv := shaped_str hv
  have ee := shaped_str okS_empty
  refine ⟨l.defs.reverse.map duoD, rfl, fun k ρ => ∃ t3 t4, ρ = [.val l.d, .val (.tuple [.str sym, .str ver, .bool b]), .val (optD (firstFit (l.defs.reverse.take k).reverse sym ver)), t3, t4], ⟨.un, .un, rfl⟩, fun k x ρ hx hI => ?_, fun ρ hI => ?_⟩
  · obtain ⟨t3, t4, rfl⟩ := hI
    obtain ⟨p, rfl, hp⟩ : ∃ p : Str × Str, x = duoD p ∧ l.defs.reverse[k]? = some p := by
      rw [List.getElem?_map] at hx
      cases e : l.defs.reverse[k]? with
      | none => rw [e] at hx; cases hx
      | some p => rw [e] at hx; exact ⟨p, (Option.some.inj hx).symm, rfl⟩
    obtain ⟨o1, o2⟩ := okd p (List.mem_of_getElem? hp)
    have s1 := shaped_str o1
    have s2 := shaped_str o2
    have step : firstFit (l.defs.reverse.take (k + 1)).reverse sym ver = if (decide (p.1 = sym) && fits p.2 ver) = true then some p.2 else firstFit (l.defs.reverse.take k).reverse sym ver := by
      rw [take_one hp, List.reverse_append, List.reverse_singleton, List.singleton_append, firstFit_cons]
    generalize firstFit (l.defs.reverse.take k).reverse sym ver = was at step ⊢
    obtain ⟨ps, pv⟩ := p
    simp only [duoD]
    walk_at "tr"
    refine ⟨rfl, ?_⟩
    refine Tr.Later.now ?_
    walk_at "tr"
    refine ⟨s1, ss, ?_⟩
    simp only [eqv_str]
    by_cases h1 : ps = sym
    · rw [if_pos (by simp [h1])]
      refine ⟨s2, sv, ?_⟩
      by_cases h2 : pv = ver
      · rw [if_pos (by simp [h2])]
        refine Tr.Later.now ?_
        walk_at "tr"
        exact ⟨_, _, by rw [step, if_pos (by simp [fits, h1, h2])]; rfl⟩
      · rw [if_neg (by simp [h2])]
        refine ⟨s2, ee, ?_⟩
        by_cases h3 : pv = ""
        · rw [if_pos (by simp [h3])]
          refine Tr.Later.now ?_
          walk_at "tr"
          exact ⟨_, _, by rw [step, if_pos (by simp [fits, h1, h3])]; rfl⟩
        · rw [if_neg (by simp [h3])]
          refine ⟨sv, ee, ?_⟩
          by_cases h4 : ver = ""
          · rw [if_pos (by simp [h4])]
            refine Tr.Later.now ?_
            walk_at "tr"
            exact ⟨_, _, by rw [step, if_pos (by simp [fits, h1, h4])]; rfl⟩
          · rw [if_neg (by simp [h4])]
            refine Tr.Later.now ?_
            walk_at "tr"
            exact ⟨_, _, by rw [step, if_neg (by simp [fits, h2, h3, h4])]⟩
    · rw [if_neg (by simp [h1])]
      refine Tr.Later.now ?_
      walk_at "tr"
      exact ⟨_, _, by rw [step, if_neg (by simp [h1])]⟩
  · obtain ⟨t3, t4, rfl⟩ := hI
    rw [List.length_map, List.take_length, List.reverse_reverse]
    refine Tr.Later.now ?_
    simp only [Lib.d]
    walk_at "tr"
    have g1 : ∀ p : Str × Str, okS p.1 ∧ okS p.2 → Good 1 (duoD p) := fun p hp => good_tuple fun d hd => by
      simp only [List.mem_cons, List.not_mem_nil, or_false] at hd
      rcases hd with rfl | rfl
      · exact good_str hp.1.1
      · exact good_str hp.2.1
    refine ⟨by decide, true, l.defs.map duoD, rfl, (g1 (sym, ver) ⟨hs, hv⟩).shaped (by decide), (good_tuple (n := 1) fun d hd => ?_).shaped (by decide), ?_⟩
    · obtain ⟨p, m, rfl⟩ := List.mem_map.mp hd
      exact g1 p (hL.defs.2.1 p m)
    · have e : ((l.defs.map duoD).any fun z => z.eqv (.tuple [.str sym, .str ver])) = decide ((sym, ver) ∈ l.defs) := by
        rw [List.any_map]
        refine Bool.eq_iff_iff.mpr ?_
        rw [List.any_eq_true, decide_eq_true_eq]
        constructor
        · rintro ⟨p, m, h⟩
          have h' : (duoD p).eqv (.tuple [.str sym, .str ver]) = true := h
          unfold duoD at h'
          rw [eqv_tuple] at h'
          simp only [PyData.eqvAll, eqv_str, Bool.and_true, Bool.and_eq_true, decide_eq_true_eq] at h'
          rw [← h'.1, ← h'.2]
          exact m
        · intro m
          exact ⟨_, m, (g1 (sym, ver) ⟨hs, hv⟩).eqv⟩
      rw [e]
      unfold dueOf at q
      simp only [Bool.false_eq_true, if_false]
      by_cases hm : (sym, ver) ∈ l.defs
      · rw [if_pos hm] at q
        rw [if_pos (by simpa using hm)]
        exact q
      · rw [if_neg hm] at q
        rw [if_neg (by simpa using hm)]
        exact q
end
end K04
set_option Elab.async false
set_option linter.all false
set_option maxRecDepth 100000
set_option maxHeartbeats 2000000
/-! TrI: isinstance(x, (list, tuple)) -/
namespace Tr
open PySem PySem.Spec PyProof.Rows L2
variable [Tabbed]
def tyOf : PyData → String
  | .none => "NoneType"
  | .bool _ => "bool"
  | .int _ => "int"
  | .str _ => "str"
  | .list _ => "list"
  | .tuple _ => "tuple"
  | _ => "dict"
theorem dq_ty {K : PySem.W.Frag} {H : Hp} {v : V} {d : PyData} (h : Dq K H v d) : TyX K H v (.type (tyOf d)) := by
  cases h with
  | non => exact .base .non
  | bl b => exact .base (.bl b)
  | int i => exact .base (.int i)
  | str x => exact .base (.str x)
  | lst sq _ =>
    rcases sq with (h | ⟨o, h⟩) | ⟨its, n, h, _⟩
    · exact .base (.lst h)
    · exact .base (.frz h)
    · exact .kList h rfl
  | tup sq _ =>
    rcases sq with (h | ⟨o, h⟩) | h
    · exact .base (.tup h)
    · exact .fTuple h
    · obtain ⟨o, its, n, h1, h2, _⟩ := h
      exact .kTuple h1 h2
/-- a list or a tuple -/
def isLT : PyData → Bool
  | .list _ => true
  | .tuple _ => true
  | _ => false
theorem kit_lt {K : PySem.W.Frag} {H : Hp} {v : V} {d : PyData} (h : Dq K H v d) : PySem.W.kitAny K (.type (tyOf d)) [.type "list", .type "tuple"] = some (isLT d) := by
  have nn : ∀ n : String, kitB n "list" = some false → kitB n "tuple" = some false → PySem.W.kitAny K (.type n) [.type "list", .type "tuple"] = some false := fun n h1 h2 =>
    kitAny_cons (kit_ty h1) (fun _ => kitAny_cons (kit_ty h2) (fun _ => kitAny_nil) fun z => nomatch z) fun z => nomatch z
  cases h with
  | non => exact nn "NoneType" (by decide +kernel) (by decide +kernel)
  | bl b => exact nn "bool" (by decide +kernel) (by decide +kernel)
  | int i => exact nn "int" (by decide +kernel) (by decide +kernel)
  | str x => exact nn "str" (by decide +kernel) (by decide +kernel)
  | lst _ _ => exact kitAny_cons (b := true) (kit_ty (a := "list") (b := "list") (by decide +kernel)) (fun z => nomatch z) fun _ => rfl
  | tup _ _ => exact kitAny_cons (b := false) (kit_ty (a := "tuple") (b := "list") (by decide +kernel)) (fun _ => kitAny_cons (b := true) (kit_ty (a := "tuple") (b := "tuple") (by decide +kernel)) (fun z => nomatch z) fun _ => rfl) fun z => nomatch z
def wIsLT (we : W1) : W1 := fun ρ P => we ρ fun d ρ1 => P (.bool (isLT d)) ρ1
section
variable {X : Cx} {e : Expr} {te : TE} {we : W1} {k : Nat} {p p1 p2 pt pos : Pos}
theorem ev_isLT (hm : X.mg "isinstance" = none) (hml : X.mg "list" = none) (hmt : X.mg "tuple" = none) (he : EV X e te we) (hg : Gl X "isinstance" := by rfl) (hgl : Gl X "list" := by rfl) (hgt : Gl X "tuple" := by rfl)
    (hs1 : starEach [.Name "list" p1, .Name "tuple" p2] X.env = (false, eval (.Name "list" p1) X.env) :: starEach [.Name "tuple" p2] X.env := by rfl) (hs2 : starEach [.Name "tuple" p2] X.env = (false, eval (.Name "tuple" p2) X.env) :: starEach [] X.env := by rfl)
    (hs3 : starEach [e, .Tuple [.Name "list" p1, .Name "tuple" p2] k pt] X.env = (false, eval e X.env) :: starEach [.Tuple [.Name "list" p1, .Name "tuple" p2] k pt] X.env := by rfl)
    (hs4 : starEach [.Tuple [.Name "list" p1, .Name "tuple" p2] k pt] X.env = (false, eval (.Tuple [.Name "list" p1, .Name "tuple" p2] k pt) X.env) :: starEach [] X.env := by rfl)
    (hpl : (backTo pos (starEach [.Tuple [.Name "list" p1, .Name "tuple" p2] k pt] X.env)).any (·.1) = false := by rfl) :
    EV X (.Call (.Name "isinstance" p) [e, .Tuple [.Name "list" p1, .Name "tuple" p2] k pt] [] pos) (tCB (rIsiT X.K) (tCons te (tCons (tTup (tCons (tC (.ty "list")) (tCons (tC (.ty "tuple")) tNil))) tNil))) (wIsLT we) :=
  ⟨pe_callB call_isiT hg hm (by decide +kernel) (pa_cons he.pe (pa_cons (pe_tup (pa_cons (pe_bltn hgl hml (v := .ty "list") (u := .type "list") (by decide +kernel) rfl) (pa_cons (pe_bltn hgt hmt (v := .ty "tuple") (u := .type "tuple") (by decide +kernel) rfl) pa_nil hs2) hs1)) pa_nil hs4) hs3) (by decide) (by decide) hs3 hpl, fun F ρ P σ S H Q hw R q =>
    he.sd F ρ _ σ S H _ hw R fun d ρ1 v S1 H1 h1 R1 s1 d1 => by
      refine ⟨by show 2 ≤ sizeLine; rw [sizeLine_eq]; omega, fun tp n => ?_⟩
      have d2 : Dq X.K (upd H1 tp (.tup [.ty "list", .ty "tuple"])) v d := dp_mono (R1.sub.trans (same_new n)) d v d1
      exact ⟨v, tp, [.ty "list", .ty "tuple"], _, [.type "list", .type "tuple"], isLT d, rfl, upd_same, .cons (.ty _) (.cons (.ty _) .nil), dq_ty d2, kit_lt d2, q _ ρ1 _ S1 _ h1 (R1.lay n _) s1 (.bl _)⟩⟩
end
end Tr
set_option Elab.async false
set_option linter.all false
set_option maxRecDepth 100000
set_option maxHeartbeats 4000000
namespace K04
open PySem PySem.Spec PyProof.Rows L2 Tr
variable [Tabbed]
local macro_rules | `(tactic| walk_at "tr") => `(tactic| simp only [wRet, wRetN, wExpr, wAsg, wSet, wSetN, wPar, wParV0, wParN0, wAugI, wgNil, wgCons, wCall, wCall0, wCallM, wCallN, wIxO, wFn, wFn1, wFnN, wTuple1, wAppend, wPopAt, wSetO, wNeO, wIsN, wTup, wLst, wYes, wRep, wSliceL, wSliceT, wRev, wRevT, wIsLT, isLT, ownAt, asInt, asNat, asList, asTuple, someOf, at0, at1, at2, at3, wIf, wB, wOp, wOpN, wName, wLook, wN, wC, wAnd, wOr, wNot, wAndV, wOrV, wNotV, wSeq, wNext, wIfS, wNil, wCons, wPart, wgSeq, gvName, wTurn, wipeE, gI, gI0, gEq, gNe, gLen, gIx, gInt, gAbs, gMin2, gList, gTup1, gAll, gCatL, gCatT, isNone, startE, startM, List.map_cons, List.map_nil, List.length_cons, List.length_nil, List.cons_append, List.nil_append, List.getElem?_cons_zero, List.getElem?_cons_succ, List.set_cons_zero, List.set_cons_succ, List.replicate, List.length_map, if_true, if_false, Bool.false_eq_true, reduceIte, List.mem_cons, List.not_mem_nil, or_false, forall_eq, forall_eq_or_imp, false_implies, implies_true, true_and, and_true, Option.bind_some, Option.map_some, Option.map_none, Int.reduceLT, Int.reduceLE, Int.reduceToNat, Int.toNat_zero, Int.toNat_one, Int.toNat_natCast, Nat.reduceAdd, Nat.reduceLT, decide_true, List.set, Int.add_zero, Int.zero_add])
/-- the same with lists for tuples -/
inductive Soft : Nat → PyData → PyData → Prop
  | non {n : Nat} : Soft n .none .none
  | bool {n : Nat} (b : Bool) : Soft n (.bool b) (.bool b)
  | int {n : Nat} (i : Int) : Soft n (.int i) (.int i)
  | str {n : Nat} (x : Str) : Soft n (.str x) (.str x)
  | list {n : Nat} {ds es : List PyData} : ds.length = es.length → ds.length ≤ 100 → (∀ (i : Nat) (d e : PyData), ds[i]? = some d → es[i]? = some e → Soft n d e) → Soft (n + 1) (.list ds) (.list es)
  | tuple {n : Nat} {ds es : List PyData} : ds.length = es.length → ds.length ≤ 100 → (∀ (i : Nat) (d e : PyData), ds[i]? = some d → es[i]? = some e → Soft n d e) → Soft (n + 1) (.tuple ds) (.list es)
section
variable {P : Program} {w : World} {K : PySem.W.Frag} {mg : Str → Option Value} {base : Heap}
def tLists : Nat → TSp
  | 0 => fun _ _ => False
  | n + 1 => fun ds Q => ∃ d e, ds = [d] ∧ Soft n d e ∧ Q e
theorem ok_lists (T : Top K mg) : ∀ n : Nat, FnOk P w K mg base (L2.CX P w) (n + 1) T.a_lists T.d_lists ["_law_matter"] (spV K 1 (tLists n))
  | 0 => ⟨fun vs H Q E h => by
      obtain ⟨_, _, _, _, _, _, _, z, _⟩ := h
      exact z.elim, fun A outer s H args us vs Q E hr he hb hv h => by
      obtain ⟨_, _, _, _, _, _, _, z, _⟩ := h
      exact z.elim⟩
  | n + 1 => by
    have ih := ok_lists T n
    refine fn_pure T.F_lists sc_lists rfl fun c A o s H E hr => ?_
    have nd := sc_lists.nd
    refine ⟨_, _, (svs_one (sv_ret (ev_if (et_val (ev_isLT T.b_isinstance T.b_list T.b_tuple (ev_name 0))) (en_lc (te := tCall (spV K 1 (tLists n)) [] E0 _) [("_law_part", 1)] rfl nd (ev_name 0) (blkOk_by (N := N_lists) (sc := defScope s_lists) (by decide +kernel)) (fun _ _ _ _ _ => (gv_name 1 nd)) (fun _ _ _ _ _ => ets_nil) (fun _ _ _ _ _ => (ev_call ih hr T.m_lists T.F_lists.kp T.B_lists (ea_cons (ev_name 1) ea_nil))) (by decide)).ev (ev_name 0)))), fun ds P' hl hT => ?_⟩
    obtain ⟨d, e, rfl, hS, q⟩ := hT
    cases hS
    case non => walk_at "tr"; exact q
    case bool => walk_at "tr"; exact q
    case int => walk_at "tr"; exact q
    case str => walk_at "tr"; exact q
    case list n ds es h1 h2 h3 =>
      walk_at "tr"
      unfold wLc
      refine ⟨false, ?_⟩
      walk_at "tr"
      refine ⟨ds, rfl, fun k acc ρ => acc = es.take k ∧ ρ = [.val (.list ds), .un], ⟨rfl, rfl⟩, fun k x acc ρ hx hI => ?_, fun acc ρ hI => ?_⟩
      · obtain ⟨rfl, rfl⟩ := hI
        walk_at "tr"
        have hk : k < es.length := by
          have := (List.getElem?_eq_some_iff.mp hx).1
          omega
        have he : es[k]? = some es[k] := List.getElem?_eq_getElem hk
        exact ⟨x, es[k], rfl, h3 k x _ hx he, by rw [List.length_take, sizeLine_eq]; omega, (take_one he).symm⟩
      · obtain ⟨rfl, rfl⟩ := hI
        rw [h1, List.take_length]
        exact q
    case tuple n ds es h1 h2 h3 =>
      walk_at "tr"
      unfold wLc
      refine ⟨true, ?_⟩
      walk_at "tr"
      refine ⟨ds, rfl, fun k acc ρ => acc = es.take k ∧ ρ = [.val (.tuple ds), .un], ⟨rfl, rfl⟩, fun k x acc ρ hx hI => ?_, fun acc ρ hI => ?_⟩
      · obtain ⟨rfl, rfl⟩ := hI
        walk_at "tr"
        have hk : k < es.length := by
          have := (List.getElem?_eq_some_iff.mp hx).1
          omega
        have he : es[k]? = some es[k] := List.getElem?_eq_getElem hk
        exact ⟨x, es[k], rfl, h3 k x _ hx he, by rw [List.length_take, sizeLine_eq]; omega, (take_one he).symm⟩
      · obtain ⟨rfl, rfl⟩ := hI
        rw [h1, List.take_length]
        exact q
end
end K04
set_option Elab.async false
set_option linter.all false
set_option maxRecDepth 100000
set_option maxHeartbeats 2000000
/-! TrM: min(texts, default=None) -/
namespace Tr
open PySem PySem.Spec PyProof.Rows L2
variable [Tabbed]
def lessS (a y : Str) : Str := if y.cps.toList < a.cps.toList then y else a
def leastS : List Str → Option Str
  | [] => none
  | y :: ys => some (ys.foldl lessS y)
def optT : Option Str → PyData
  | none => .none
  | some x => .str x
theorem min_texts (ys : List Str) : ∀ y : Str, PySem.W.minD (.str y) (ys.map .str) = .str (ys.foldl lessS y) := by
  unfold PySem.W.minD
  induction ys with
  | nil => exact fun _ => rfl
  | cons k r ih =>
    intro y
    rw [List.map_cons, List.foldl_cons, List.foldl_cons, PySem.W.dataLt_str]
    have e : (if decide (k.cps.toList < y.cps.toList) = true then PyData.str k else PyData.str y) = .str (lessS y k) := by
      unfold lessS
      by_cases h : k.cps.toList < y.cps.toList
      · rw [if_pos (decide_eq_true h), if_pos h]
      · rw [if_neg (by simpa using h), if_neg h]
    rw [e]
    exact ih _
theorem alike_texts : ∀ xs : List Str, PySem.W.AlikeAll (xs.map .str) := fun xs => by
  refine ⟨fun x hx y hy => ?_, fun x hx => ?_⟩
  · obtain ⟨a, _, rfl⟩ := List.mem_map.mp hx
    obtain ⟨b, _, rfl⟩ := List.mem_map.mp hy
    simp [PySem.W.alike]
  · obtain ⟨a, _, rfl⟩ := List.mem_map.mp hx
    exact fun z => nomatch z
theorem depth_texts : ∀ xs : List Str, PyData.depthAll (xs.map .str) = 0
  | [] => rfl
  | x :: xs => by
    rw [List.map_cons, PyData.depthAll, depth_texts xs]
    simp [PyData.depth]
theorem reads_texts {h : Heap} : ∀ {xs : List Str} {us : List Value}, Vals (xs.map V.str) us → ReadsAll h us (xs.map .str) []
  | [], _, .nil => .nil
  | x :: xs, _, .cons ⟨t, e⟩ r => by
    subst e
    exact .cons (.str x t) (reads_texts r)
def rMinT (K : PySem.W.Frag) : List V → List V → Hp → VK → Prop := fun vs zs H Q => ∃ (a : Addr) (xs : List Str), vs = [.ref a] ∧ zs = [.non] ∧ SqL K H a (xs.map V.str) ∧ (xs = [] → Q .non H) ∧ ∀ m, leastS xs = some m → Q (.str m) H
section
variable {X : Cx}
theorem call_minT (hc : X.calm = true) (hu : X.A.units + 64 < cLine) : CallRK X (.builtin "min") [Str.ofString "default"] (rMinT X.K) := by
  rintro pins s σ H vs zs us ws Q I r1 r2 ⟨a, xs, rfl, rfl, hl, q0, q1⟩
  rw [Vals.ref1 r1]
  obtain ⟨w1, rfl, rfl⟩ : ∃ w1, ws = [w1] ∧ w1 = Value.none := by
    cases r2 with
    | cons h t =>
      cases t
      exact ⟨_, rfl, h⟩
  obtain ⟨its, rv, pl, hz⟩ := I.list hl
  refine PySem.W.min_list_default (I.ok.hd hc) pl.isList (by simpa using reads_texts rv) (alike_texts xs) (by rw [depth_texts]; omega) (fun e h1 tk up => ?_) fun y ys i v h1 tk bs e hv rd up => ?_
  · have e2 : xs = [] := List.map_eq_nil_iff.mp e
    exact ⟨.non, H, I.kept (t' := tk) up, rfl, q0 e2⟩
  · cases xs with
    | nil => cases e
    | cons z zs =>
      rw [List.map_cons] at e
      injection e with e1 e2
      subst e1 e2
      rw [min_texts] at rd
      cases rd
      exact ⟨.str _, H, I.kept (t' := tk) up, ⟨_, rfl⟩, q1 _ rfl⟩
def wMinT (we : W1) : W1 := fun ρ P => we ρ fun d ρ1 => ∃ xs : List Str, d = .list (xs.map .str) ∧ P (optT (leastS xs)) ρ1
theorem texts_dq {K : PySem.W.Frag} {S : Hp} : ∀ (xs : List Str) {vs : List V}, DqAll K S vs (xs.map .str) → vs = xs.map V.str
  | [], vs, h => by
    have h1 : DqAll K S vs [] := h
    cases h1
    rfl
  | x :: xs, vs, h => by
    have h1 : DqAll K S vs (.str x :: xs.map .str) := h
    cases h1 with
    | cons k1 k2 =>
      cases k1
      rw [texts_dq xs k2] <;> rfl
variable {e : Expr} {te : TE} {we : W1} {j : Nat} {p p1 kp pos : Pos}
theorem ev_minT (hu : X.A.units + 64 < cLine) (hc : X.calm = true) (hm : X.mg "min" = none) (ha : EV X e te we) (hg : Gl X "min" := by rfl)
    (he : backTo pos (starEach [e] X.env) = (false, eval e X.env) :: backTo pos (starEach [] X.env) := by rfl) (hpl : (backTo pos (starEach [e] X.env)).any (·.1) = false := by rfl)
    (hs : starEach [e] X.env = (false, eval e X.env) :: starEach [] X.env := by rfl) :
    EV X (.Call (.Name "min" p) [e] [⟨some "default", .Constant .none j p1, kp⟩] pos) (tCKw (rMinT X.K) (tCons te tNil) (tCons (tC .non) tNil)) (wMinT we) :=
  ⟨pe_callBK (call_minT hc hu) hg hm (by decide +kernel) (pa_cons ha.pe pa_nil hs) (pk_cons pe_non pk_nil) (by decide) (by decide) he hpl, fun F ρ P σ S H Q hw R q =>
    ha.sd F ρ _ σ S H _ hw R fun d ρ1 v S1 H1 h1 R1 s1 d1 => by
      obtain ⟨xs, rfl, hp⟩ := h1
      cases d1 with
      | lst sq hd =>
        have e := texts_dq xs hd
        subst e
        refine ⟨_, xs, rfl, rfl, same_sqL R1.sub sq, fun z => ?_, fun m hm => ?_⟩
        · subst z
          exact q _ ρ1 _ S1 H1 hp R1 s1 .non
        · rw [hm] at hp
          exact q _ ρ1 _ S1 H1 hp R1 s1 (.str m)⟩
end
/-- a statement that is never reached -/
theorem sv_dead {X : Cx} {st : Stmt} : SV X st (fun _ _ _ => False) (fun _ _ => False) :=
  ⟨⟨fun pins s σ H D I h => h.elim⟩, fun F ρ N σ S H D hw R T => hw⟩
end Tr
set_option Elab.async false
set_option linter.all false
set_option maxRecDepth 100000
set_option maxHeartbeats 4000000
namespace K04
open PySem PySem.Spec PyProof.Rows L2 Tr
variable [Tabbed]
local macro_rules | `(tactic| walk_at "tr") => `(tactic| simp only [wRet, wRetN, wExpr, wAsg, wSet, wSetN, wPar, wParV0, wParN0, wAugI, wgNil, wgCons, wCall, wCall0, wCallM, wCallN, wIxO, wFn, wFn1, wFnN, wTuple1, wAppend, wPopAt, wSetO, wNeO, wIsN, wTup, wLst, wYes, wRep, wSliceL, wSliceT, wRev, wRevT, wIsLT, wMinT, ownAt, asInt, asNat, asList, asTuple, someOf, at0, at1, at2, at3, wIf, wB, wOp, wOpN, wName, wLook, wN, wC, wAnd, wOr, wNot, wAndV, wOrV, wNotV, wSeq, wNext, wIfS, wNil, wCons, wPart, wgSeq, gvName, wTurn, wipeE, gI, gI0, gEq, gNe, gLen, gIx, gInt, gAbs, gMin2, gList, gTup1, gAll, gCatL, gCatT, isNone, startE, startM, List.map_cons, List.map_nil, List.length_cons, List.length_nil, List.cons_append, List.nil_append, List.getElem?_cons_zero, List.getElem?_cons_succ, List.set_cons_zero, List.set_cons_succ, List.replicate, List.length_map, if_true, if_false, Bool.false_eq_true, reduceIte, List.mem_cons, List.not_mem_nil, or_false, forall_eq, forall_eq_or_imp, false_implies, implies_true, true_and, and_true, Option.bind_some, Option.map_some, Option.map_none, Int.reduceLT, Int.reduceLE, Int.reduceToNat, Int.toNat_zero, Int.toNat_one, Int.toNat_natCast, Nat.reduceAdd, Nat.reduceLT, decide_true, List.set, Int.add_zero, Int.zero_add])
def duoT (b : Bool) (p : Str × Str) : PyData := seqOf b [.str p.1, .str p.2]
def useT (b : Bool) (u : (Str × Str) × Bool) : PyData := seqOf b [.str u.1.1, .str u.1.2, .bool u.2]
def libT (b : Bool) (l : Lib) : PyData := seqOf b [.str l.own, seqOf b (l.needs.map .str), seqOf b (l.defs.map (duoT b)), seqOf b (l.uses.map (useT b))]
def plotT (b : Bool) (p : Plot) : PyData := seqOf b [seqOf b (p.libs.map (libT b)), seqOf b (p.early.map .str), seqOf b (p.doors.map (duoT b))]
theorem plotT_d (p : Plot) : plotT true p = p.d := rfl
section
variable {P : Program} {w : World} {K : PySem.W.Frag} {mg : Str → Option Value} {base : Heap}
def Fine (p : Plot) : Prop := (∀ l ∈ p.libs, l.Ok) ∧ (p.libs.map (·.own)).Nodup
theorem fine_of {p : Plot} (h : p.Ok) : Fine p := ⟨fun l hl => (h.libs.1 l hl).1, h.libs.2.2.1⟩
def tNamed : TSp := fun ds Q => ∃ (b : Bool) (p : Plot) (l : Lib) (i : Nat), Fine p ∧ p.libs[i]? = some l ∧ ds = [plotT b p, .str l.own] ∧ Q (libT b l)
theorem ok_lib_named (T : Top K mg) : FnOk P w K mg base (L2.CX P w) 1 T.a_lib_named T.d_lib_named ["program", "name"] (spV K 2 tNamed) := by
  refine fn_pure T.F_lib_named sc_lib_named rfl fun c A o s H E hr => ?_
  have nd := sc_lib_named.nd
  have hu := hr.units
  refine ⟨_, _, (svs_cons (sv_for (ev_ix (ev_name 0) ev_int) (gv_name 2 nd) (svs_one (sv_if (et_eq hu (ev_ix (ev_name 2) ev_int) (ev_name 1)) (svs_one (sv_ret (ev_name 2))) svs_nil)) PassesOwn.never rfl)
      (svs_one sv_dead)), fun ds P' hl hT => ?_⟩
  obtain ⟨b, p, l, i, hp, hi, rfl, q⟩ := hT
  have ol := (hp.1 l (List.mem_of_getElem? hi)).own
  have one : ∀ (j k : Nat) (m n : Lib), p.libs[j]? = some m → p.libs[k]? = some n → m.own = n.own → j = k := fun j k m n h1 h2 e => by
    have nd2 := hp.2
    have lj : j < (p.libs.map (·.own)).length := by
      rw [List.length_map]
      exact (List.getElem?_eq_some_iff.mp h1).1
    exact (List.getElem?_inj lj nd2).mp (by rw [List.getElem?_map, List.getElem?_map, h1, h2]; exact congrArg some e)
  cases b
  · simp only [plotT, seqOf]
    walk_at "tr"
    unfold wFor
    refine ⟨false, ?_⟩
    walk_at "tr"
    refine ⟨p.libs.map (libT false), rfl, fun k ρ => (k ≤ i) ∧ ∃ t0 t, ρ = [t0, .val (.str l.own), t], ⟨Nat.zero_le _, _, _, rfl⟩, fun k x ρ hx hI => ?_, fun ρ hI => ?_⟩
    · obtain ⟨hk, t0, t, rfl⟩ := hI
      obtain ⟨m, rfl, hm⟩ : ∃ m : Lib, x = libT false m ∧ p.libs[k]? = some m := by
        rw [List.getElem?_map] at hx
        cases e : p.libs[k]? with
        | none => rw [e] at hx; cases hx
        | some m => rw [e] at hx; exact ⟨m, (Option.some.inj hx).symm, rfl⟩
      have om := (hp.1 m (List.mem_of_getElem? hm)).own
      refine Tr.Later.now ?_
      walk_at "tr"
      simp only [libT, seqOf]
      walk_at "tr"
      refine ⟨shaped_str om, shaped_str ol, ?_⟩
      rw [eqv_str]
      by_cases e : m.own = l.own
      · rw [if_pos (by simp [e])]
        have ek : k = i := one k i m l hm hi e
        subst ek
        rw [hi] at hm
        cases hm
        refine Tr.Later.now ?_
        walk_at "tr"
        exact q
      · rw [if_neg (by simp [e])]
        refine Tr.Later.now ?_
        walk_at "tr"
        have nk : k ≠ i := fun z => by
          subst z
          rw [hi] at hm
          cases hm
          exact e rfl
        exact ⟨by omega, _, _, rfl⟩
    · obtain ⟨hk, _⟩ := hI
      rw [List.length_map] at hk
      have := (List.getElem?_eq_some_iff.mp hi).1
      omega
  · simp only [plotT, seqOf]
    walk_at "tr"
    unfold wFor
    refine ⟨true, ?_⟩
    walk_at "tr"
    refine ⟨p.libs.map (libT true), rfl, fun k ρ => (k ≤ i) ∧ ∃ t0 t, ρ = [t0, .val (.str l.own), t], ⟨Nat.zero_le _, _, _, rfl⟩, fun k x ρ hx hI => ?_, fun ρ hI => ?_⟩
    · obtain ⟨hk, t0, t, rfl⟩ := hI
      obtain ⟨m, rfl, hm⟩ : ∃ m : Lib, x = libT true m ∧ p.libs[k]? = some m := by
        rw [List.getElem?_map] at hx
        cases e : p.libs[k]? with
        | none => rw [e] at hx; cases hx
        | some m => rw [e] at hx; exact ⟨m, (Option.some.inj hx).symm, rfl⟩
      have om := (hp.1 m (List.mem_of_getElem? hm)).own
      refine Tr.Later.now ?_
      walk_at "tr"
      simp only [libT, seqOf]
      walk_at "tr"
      refine ⟨shaped_str om, shaped_str ol, ?_⟩
      rw [eqv_str]
      by_cases e : m.own = l.own
      · rw [if_pos (by simp [e])]
        have ek : k = i := one k i m l hm hi e
        subst ek
        rw [hi] at hm
        cases hm
        refine Tr.Later.now ?_
        walk_at "tr"
        exact q
      · rw [if_neg (by simp [e])]
        refine Tr.Later.now ?_
        walk_at "tr"
        have nk : k ≠ i := fun z => by
          subst z
          rw [hi] at hm
          cases hm
          exact e rfl
        exact ⟨by omega, _, _, rfl⟩
    · obtain ⟨hk, _⟩ := hI
      rw [List.length_map] at hk
      have := (List.getElem?_eq_some_iff.mp hi).1
      omega
end
end K04
set_option Elab.async false
set_option linter.all false
set_option maxRecDepth 100000
set_option maxHeartbeats 2000000
/-! TrK: f(c=.., b=.., a=..): all by name, none by place -/
namespace Tr
open PySem PySem.Spec PyProof.Rows L2
variable [Tabbed]
section
variable {X : Cx} {k : Nat} {f : Addr} {fd : FuncData} {ps ks : List Str} {g : List Value → List Value → List Value} {gV : List V → List V → List V} {x : Str} {kws : List Keyword} {tk : TA} {p pos : Pos} {T : TSp} {n : Nat} {wa : WA} {es : List Expr}
theorem pe_named {sp : Sp} (F : FnOk X.prog X.w X.K X.mg X.base (L2.CX X.prog X.w) k f fd ps sp) (hr : Room k X.A) (hg : Gl X x) (hm : X.mg x = some (.ref f)) (hk : PySem.W.keepIn X.K (.ref f) = true) (hb : KBn X.K fd ps 0 ks g gV)
    (hkw : PK X kws tk) (hall : (backToKw pos (keywordEach kws X.env)).all (·.1.isSome) = true := by rfl) (hks : (backToKw pos (keywordEach kws X.env)).filterMap (·.1) = ks := by rfl)
    (hdb : (x == ("__debug__" : Str)) = false := by decide) (hpl : ((backTo pos (starEach [] X.env)).any (·.1) || (backToKw pos (keywordEach kws X.env)).any (·.1.isNone)) = false := by rfl) :
    PE X (.Call (.Name x p) [] kws pos) (tCallN 0 ks.length sp gV E0 tNil tk) := by
  refine ⟨fun pins s σ H Q I h => wpAny_Call_Name_kw (ld_glob I hg hm ?_ hdb)⟩
  refine PySem.W.callWith_KW0 (h₀ := X.base) I.ok.mod.kin hk hall (thn (hkw.run pos pins s σ H _ I h) ?_) hpl
  rintro ws s2 ⟨zs, H2, I2, rz, l1, l2, q2⟩
  rw [hks]
  exact ⟨I2.kIn, run_fnN F hr hb passL I2 .nil rz l1 l2 q2⟩
/-- arguments by name -/
structure EKs (X : Cx) (kws : List Keyword) (t : TA) (w : WA) : Prop where
  pk : PK X kws t
  sd : SndA X.K t w
theorem ek_nil : EKs X [] tNil wNil := ⟨pk_nil, fun F ρ P σ S H Q hw R q => q [] ρ [] S H hw R (Same.refl S) .nil⟩
theorem ek_cons {e : Expr} {te : TE} {we : W1} {nm : Option Str} {kp : Pos} (ha : EV X e te we) (hr : EKs X kws tk wa) : EKs X (⟨nm, e, kp⟩ :: kws) (tCons te tk) (wCons we wa) := ⟨pk_cons ha.pe hr.pk, fun F ρ P σ S H Q hw R q =>
  ha.sd F ρ _ σ S H _ hw R fun x ρ1 v S1 H1 h1 R1 s1 d1 =>
    hr.sd F ρ1 _ σ S1 H1 _ h1 R1 fun xs ρ2 vs S2 H2 h2 R2 s2 d2 =>
      q _ ρ2 _ S2 H2 h2 R2 (s1.trans s2) (.cons (dp_mono s2 x v d1) d2)⟩
/-- the names stand in the other order than the parameters -/
def wCallRev (n : Nat) (T : TSp) (wa : WA) : W1 := fun ρ P => wa ρ fun ds ρ1 => ds.length = n ∧ T ds.reverse fun d => P d ρ1
theorem ev_namedRev (F : FnOk X.prog X.w X.K X.mg X.base (L2.CX X.prog X.w) k f fd ps (spV X.K n T)) (hr : Room k X.A) (hm : X.mg x = some (.ref f)) (hk : PySem.W.keepIn X.K (.ref f) = true) (hb : KBn X.K fd ps 0 ks (fun _ ws => ws.reverse) (fun _ zs => zs.reverse)) (hn : ks.length = n)
    (ha : EKs X kws tk wa) (hg : Gl X x := by rfl) (hall : (backToKw pos (keywordEach kws X.env)).all (·.1.isSome) = true := by rfl) (hks : (backToKw pos (keywordEach kws X.env)).filterMap (·.1) = ks := by rfl)
    (hdb : (x == ("__debug__" : Str)) = false := by decide) (hpl : ((backTo pos (starEach [] X.env)).any (·.1) || (backToKw pos (keywordEach kws X.env)).any (·.1.isNone)) = false := by rfl) :
    EV X (.Call (.Name x p) [] kws pos) (tCallN 0 ks.length (spV X.K n T) (fun _ zs => zs.reverse) E0 tNil tk) (wCallRev n T wa) := ⟨pe_named F hr hg hm hk hb ha.pk hall hks hdb hpl, fun F ρ P σ S H Q hw R q =>
  ha.sd F ρ _ σ S H _ hw R fun ds ρ1 vs S1 H1 h1 R1 s1 d1 => ⟨rfl, by rw [d1.len, hn]; exact h1.1,
    snd_spV R1 d1.reverse (by rw [List.length_reverse]; exact h1.1) h1.2 fun d ρ' v S' H' hp R' sm hv => q d ρ' v S' H' hp R' (s1.trans sm) hv⟩⟩
end
end Tr
set_option Elab.async false
set_option linter.all false
set_option maxRecDepth 100000
set_option maxHeartbeats 2000000
/-! TrD: a dict of texts that stands still: made by dict([(text, tree), ..]), read by d[text]; a display with *xs -/
namespace Tr
open PySem PySem.Spec PyProof.Rows L2
variable [Tabbed]
section
variable {K : PySem.W.Frag} {F : Fm} {S H : Hp} {σ : L2.St} {ρ : En}
theorem Rep.setDic (R : Rep K F S H σ ρ) (i : Nat) {v : V} {m : List (Str × PyData)} (h : DicIs K S v m) : Rep K F S H (σ.set i (some v)) (ρ.set i (.dic m)) where
  sub := R.sub
  s0 := R.s0
  fresh := R.fresh
  keep := R.keep
  m0 := R.m0
  mt := R.mt
  tok := R.tok
  tfree := R.tfree
  len := by rw [List.length_set, List.length_set, R.len]
  at_ := fun j e q => by
    rcases get_set q with ⟨rfl, q, hl⟩ | ⟨hj, q⟩
    · cases q
    · obtain ⟨w, h1, h2⟩ := R.at_ j e q
      exact ⟨w, by rw [List.getElem?_set_ne (Ne.symm hj)]; exact h1, h2⟩
  own := fun j m ds q => by
    rcases get_set q with ⟨rfl, q, _⟩ | ⟨hj, q⟩
    · cases q
    · obtain ⟨a, vs, h1, h2⟩ := R.own j m ds q
      exact ⟨a, vs, by rw [List.getElem?_set_ne (Ne.symm hj)]; exact h1, h2⟩
  apart := fun j k m n ds es hne q q' => by
    rcases get_set q with ⟨rfl, q, _⟩ | ⟨hj, q⟩
    · cases q
    · rcases get_set q' with ⟨rfl, q', _⟩ | ⟨hk, q'⟩
      · cases q'
      · rw [List.getElem?_set_ne (Ne.symm hj), List.getElem?_set_ne (Ne.symm hk)]
        exact R.apart j k m n ds es hne q q'
  dic := fun j w q => by
    rcases get_set q with ⟨rfl, q, hl⟩ | ⟨hj, q⟩
    · cases q
      exact ⟨v, List.getElem?_set_self (by rw [R.len]; exact hl), h⟩
    · obtain ⟨u, h1, h2⟩ := R.dic j w q
      exact ⟨u, by rw [List.getElem?_set_ne (Ne.symm hj)]; exact h1, h2⟩
end
/-! ### dict([(text, tree), ..]) -/
def pairD (p : Str × PyData) : PyData := .tuple [.str p.1, p.2]
theorem dict_pairs {K : PySem.W.Frag} {S H : Hp} (sub : Same S H) : ∀ (m : List (Str × PyData)) (vs : List V), DqAll K S vs (m.map pairD) →
    ∃ (ps : List Addr) (kvs : List (Key × V)), vs = ps.map V.ref ∧ Paired (fun p kv => SqT K H p [kV kv.1, kv.2]) ps kvs ∧ kvs.map Prod.fst = m.map (fun p => (Sum.inr p.1 : Key)) ∧ DqAll K S (kvs.map Prod.snd) (m.map Prod.snd)
  | [], vs, h => by
    have h' : DqAll K S vs [] := h
    cases h'
    exact ⟨[], [], rfl, .nil, rfl, .nil⟩
  | p :: m, vs, h => by
    have h' : DqAll K S vs (pairD p :: m.map pairD) := h
    cases h' with
    | cons h1 h2 =>
      obtain ⟨ps, kvs, e1, e2, e3, e4⟩ := dict_pairs sub m _ h2
      have h1' : Dq K S _ (.tuple [.str p.1, p.2]) := h1
      cases h1' with
      | tup sq hd =>
        cases hd with
        | cons k1 k2 =>
          cases k2 with
          | cons k3 k4 =>
            cases k4
            cases k1
            refine ⟨_ :: ps, (Sum.inr p.1, _) :: kvs, by rw [e1]; rfl, .cons (same_sqT sub sq) e2, by rw [List.map_cons, List.map_cons, e3], .cons k3 e4⟩
theorem merge_new : ∀ (kvs acc : List (Key × V)), ((acc ++ kvs).map Prod.fst).Nodup → mergeK acc kvs = acc ++ kvs
  | [], acc, _ => by
    show acc = acc ++ []
    rw [List.append_nil]
  | p :: r, acc, h => by
    have no : valV acc p.1 = none := by
      unfold valV
      rw [Option.map_eq_none_iff, List.find?_eq_none]
      intro q hq
      rw [decide_eq_true_eq]
      intro e
      rw [List.map_append, List.map_cons, List.nodup_append] at h
      exact h.2.2 q.1 (List.mem_map_of_mem hq) p.1 (.head _) e
    show mergeK (putK acc p.1 p.2) r = acc ++ p :: r
    rw [putK_new p.2 no, merge_new r _ (by rw [List.append_assoc]; exact h), List.append_assoc]
    rfl
def getD (m : List (Str × PyData)) (y : Str) : Option PyData := (m.find? fun p => decide (p.1 = y)).map (·.2)
theorem dic_get {K : PySem.W.Frag} {S : Hp} {y : Str} {d : PyData} : ∀ {m : List (Str × PyData)} {kvs : List (Key × V)}, kvs.map Prod.fst = m.map (fun p => (Sum.inr p.1 : Key)) → DqAll K S (kvs.map Prod.snd) (m.map Prod.snd) → getD m y = some d → ∃ u, valV kvs (Sum.inr y) = some u ∧ Dq K S u d
  | [], _, _, _, e => by cases e
  | p :: m, [], h1, _, _ => by cases h1
  | p :: m, q :: kvs, h1, h2, e => by
    rw [List.map_cons, List.map_cons] at h1
    injection h1 with h3 h4
    rw [List.map_cons, List.map_cons] at h2
    cases h2 with
    | cons k1 k2 =>
      unfold getD at e
      rw [List.find?_cons] at e
      by_cases c : p.1 = y
      · rw [decide_eq_true c] at e
        have e' : p.2 = d := Option.some.inj e
        subst e'
        exact ⟨q.2, valV_pos (by rw [h3, c]), k1⟩
      · rw [decide_eq_false c] at e
        obtain ⟨u, g1, g2⟩ := dic_get h4 k2 e
        exact ⟨u, by rw [valV_neg (by rw [h3]; intro z; exact c (Sum.inr.inj z))]; exact g1, g2⟩
abbrev rDictP (K : PySem.W.Frag) : List V → Hp → VK → Prop := fun xs H Q => ∃ (a : Addr) (ps : List Addr) (kvs : List (Key × V)), xs = [.ref a] ∧ SqL K H a (ps.map V.ref) ∧ Paired (fun p kv => SqT K H p [kV kv.1, kv.2]) ps kvs ∧ ∀ p, H p = none → Q (.ref p) (upd H p (.dK (mergeK [] kvs)))
def wParDic (i j l : Nat) (wn : WA) (n : Int) : WS := fun ρ N => wn ρ fun ds ρ1 => ∃ m : List (Str × PyData), ds = m.map pairD ∧ (m.map Prod.fst).Nodup ∧ N.nx (((ρ1.set i (.dic m)).set j (.own false [])).set l (.val (.int n)))
section
variable {X : Cx} {ec : Expr} {tec : TE} {wn : WA} {i j l : Nat} {x y z : Str} {px py pz pt pl dp dpos pos pn : Pos} {kt k2 kn : Nat} {pt2 : Pos} {n : Int}
theorem sv_parDic (i j l : Nat) (hc : X.calm = true) (hN : X.N.Nodup) (hm : X.mg "dict" = none) (he : EN X ec tec wn) (hi : X.N[i]? = some x := by rfl) (hj : X.N[j]? = some y := by rfl) (hl : X.N[l]? = some z := by rfl) (hij : i ≠ j := by decide) (hil : i ≠ l := by decide) (hjl : j ≠ l := by decide)
    (hx : X.env.scope.names.lookup x = some .local := by rfl) (hy : X.env.scope.names.lookup y = some .local := by rfl) (hz : X.env.scope.names.lookup z = some .local := by rfl) (hg : Gl X "dict" := by rfl)
    (hw : swappedStores [.Tuple [.Name x px, .Name y py, .Name z pz] kt pt] (.Tuple [.Call (.Name "dict" dp) [ec] [] dpos, .List [] pl, .Constant (.int n) kn pn] k2 pt2) X.env = pure (some [x, y, z]) := by rfl)
    (hs : swapsWithSole [.Tuple [.Name x px, .Name y py, .Name z pz] kt pt] (.Tuple [.Call (.Name "dict" dp) [ec] [] dpos, .List [] pl, .Constant (.int n) kn pn] k2 pt2) pos.line X.env = pure false := by rfl)
    (he1 : starEach [ec] X.env = (false, eval ec X.env) :: starEach [] X.env := by rfl) (hpl : (backTo dpos (starEach [] X.env)).any (·.1) = false := by rfl)
    (h1 : starEach [.Call (.Name "dict" dp) [ec] [] dpos, .List [] pl, .Constant (.int n) kn pn] X.env = (false, eval (.Call (.Name "dict" dp) [ec] [] dpos) X.env) :: starEach [.List [] pl, .Constant (.int n) kn pn] X.env := by rfl)
    (h2 : starEach [.List [] pl, .Constant (.int n) kn pn] X.env = (false, eval (.List [] pl) X.env) :: starEach [.Constant (.int n) kn pn] X.env := by rfl) (h3 : starEach [.Constant (.int n) kn pn] X.env = (false, eval (.Constant (.int n) kn pn) X.env) :: starEach [] X.env := by rfl) :
    SV X (.Assign [.Tuple [.Name x px, .Name y py, .Name z pz] kt pt] (.Tuple [.Call (.Name "dict" dp) [ec] [] dpos, .List [] pl, .Constant (.int n) kn pn] k2 pt2) pos)
      (tPar3 i j l (tCons (tCB (rDictP X.K) (tCons tec tNil)) (tCons (tLst tNil) (tCons (tC (.int n)) tNil)))) (wParDic i j l wn n) :=
  ⟨ps_par3 hc hN hi hj hl hij hil hjl hx hy hz (pa_cons (pe_callTy (call_dictP hc) hg hm (by decide +kernel) (pa_cons he.pe pa_nil he1) (by decide) (by decide) he1 hpl) (pa_cons (pe_lst pa_nil) (pa_cons pe_int pa_nil h3) h2) h1) hw hs, fun F ρ N σ S H D hw R T =>
    he.sd F ρ _ σ S H _ hw R fun ds ρ1 p vs S1 H1 hp R1 s1 B hd => by
      obtain ⟨m, rfl, nd, hq⟩ := hp
      obtain ⟨ps, kvs, rfl, e2, e3, e4⟩ := dict_pairs R1.sub m vs hd
      refine ⟨p, ps, kvs, rfl, SqL.of B.at_, e2, fun q nq => ?_⟩
      have nk : (([] ++ kvs).map Prod.fst).Nodup := by
        rw [List.nil_append, e3]
        have e : m.map (fun p => (Sum.inr p.1 : Key)) = (m.map Prod.fst).map Sum.inr := by rw [List.map_map]; rfl
        rw [e]
        exact List.pairwise_map.mpr (nd.imp fun h z => h (Sum.inr.inj z))
      rw [merge_new kvs [] nk, List.nil_append]
      have R2 := R1.new nq (.dK kvs)
      refine ⟨Nat.zero_le _, fun r nr => ⟨.ref q, .ref r, .int n, rfl, ?_⟩⟩
      have R3 := R2.lay nr (.lst [])
      have B3 : Bare F (upd S1 q (.dK kvs)) (upd (upd H1 q (.dK kvs)) r (.lst [])) σ ρ1 r [] := R2.bare nr
      have dd : DicIs X.K (upd S1 q (.dK kvs)) (.ref q) m := ⟨q, kvs, rfl, upd_same, e3, dpAll_mono (same_new (same_none R1.sub nq)) _ _ e4⟩
      have R4 := R3.setDic i dd
      have R5 := R4.setOwn (p := r) (vs := []) (ds := []) j B3.at_ B3.s B3.h0 (fun k m' es e z => ?_) .nil
      · exact T.nx _ _ _ _ hq (R5.set l (.int n)) (s1.trans (same_new (same_none R1.sub nq)))
      · rcases get_set e with ⟨rfl, e, _⟩ | ⟨hk, e⟩
        · cases e
        · rw [List.getElem?_set_ne (Ne.symm hk)] at z
          exact B3.ap k m' es e z⟩
def dicAt (ρ : En) (i : Nat) (k : List (Str × PyData) → Prop) : Prop := match ρ[i]? with
  | some (.dic m) => k m
  | _ => False
theorem dicAt.out {ρ : En} {i : Nat} {k : List (Str × PyData) → Prop} (h : dicAt ρ i k) : ∃ m, ρ[i]? = some (.dic m) ∧ k m := by
  unfold dicAt at h
  split at h
  · exact ⟨_, by assumption, h⟩
  · exact h.elim
def wDGet (i : Nat) (we : W1) : W1 := fun ρ P => dicAt ρ i fun m => we ρ fun d ρ1 => ∃ (y : Str) (v : PyData), d = .str y ∧ getD m y = some v ∧ P v ρ1
theorem ev_dget (i : Nat) {e : Expr} {te : TE} {we : W1} {p' ps' : Pos} (hu : X.A.units + 64 < cLine) (he : EV X e te we) (hs : NoSl e) (hi : X.N[i]? = some x := by rfl) (hv : Vis X.env.scope x := by first | exact Or.inl rfl | exact Or.inr (Or.inl rfl) | exact Or.inr (Or.inr rfl)) (hd : (x == ("__debug__" : Str)) = false := by decide) (hcd : (x == ("__classdict__" : Str)) = false := by decide) :
    EV X (.Subscript (.Name x p') e ps') (tDGet (tVar i) te) (wDGet i we) := ⟨pe_dget (by omega) (pe_var hi hv hd hcd) he.pe hs, fun F ρ P σ S H Q hw R q => by
  obtain ⟨m, e0, hw⟩ := hw.out
  obtain ⟨v, g1, a, kvs, rfl, g3, g4, g5⟩ := R.dic i m e0
  refine ⟨.ref a, g1, he.sd F ρ _ σ S H _ hw R fun d ρ1 v1 S1 H1 h1 R1 s1 d1 => ?_⟩
  obtain ⟨y, u, rfl, hy, hp⟩ := h1
  cases d1
  obtain ⟨u', k1, k2⟩ := dic_get g4 g5 hy
  have ea : H1 a = some (.dK kvs) := R1.sub _ _ (s1 _ _ g3)
  refine ⟨a, u', rfl, ?_, q u ρ1 u' S1 H1 hp R1 s1 (dp_mono s1 u u' k2)⟩
  have g := DGet.k (k := Sum.inr y) ea
  rw [k1] at g
  exact g⟩
/-- .., *xs, .. -/
def seqItems (d : PyData) (k : List PyData → Prop) : Prop := match d with
  | .list ds => k ds
  | .tuple ds => k ds
  | _ => False
def wStar (we : W1) (wr : WA) : WA := fun ρ P => we ρ fun d ρ1 => seqItems d fun xs => wr ρ1 fun ys ρ2 => P (xs ++ ys) ρ2
theorem ea_star {e : Expr} {es : List Expr} {te : TE} {we : W1} {tr : TA} {wr : WA} {p : Pos} (ha : EV X e te we) (hr : EA X es tr wr) (hs : starEach (.Starred e p :: es) X.env = (true, eval e X.env) :: starEach es X.env := by rfl) : EA X (.Starred e p :: es) (StX.tStar X.K te tr) (wStar we wr) := ⟨StX.pa_star ha.pe hr.pa hs, fun F ρ P σ S H Q hw R q =>
  ha.sd F ρ _ σ S H _ hw R fun d ρ1 v S1 H1 h1 R1 s1 d1 => by
    unfold seqItems at h1
    split at h1
    · cases d1 with
      | lst sq hd => exact ⟨_, _, rfl, .inr (same_sqL R1.sub sq), hr.sd F ρ1 _ σ S1 H1 _ h1 R1 fun ys ρ2 us S2 H2 h2 R2 s2 d2 => q _ ρ2 _ S2 H2 h2 R2 (s1.trans s2) ((dpAll_mono s2 _ _ hd).append d2)⟩
    · cases d1 with
      | tup sq hd => exact ⟨_, _, rfl, .inl (same_sqT R1.sub sq), hr.sd F ρ1 _ σ S1 H1 _ h1 R1 fun ys ρ2 us S2 H2 h2 R2 s2 d2 => q _ ρ2 _ S2 H2 h2 R2 (s1.trans s2) ((dpAll_mono s2 _ _ hd).append d2)⟩
    · exact h1.elim⟩
end
end Tr
set_option Elab.async false
set_option linter.all false
set_option maxRecDepth 100000
set_option maxHeartbeats 2000000
/-! TrN: a list of lists that is looked at, and then its first list changed: what comes behind sees neither; a def that gives a new list, called for its value, by names -/
namespace Tr
open PySem PySem.Spec PyProof.Rows L2
variable [Tabbed]
def hide : Sl → Sl
  | .own _ _ => .un
  | s => s
def vw (ρ : En) : En := ρ.map hide
theorem vw_val {ρ : En} {i : Nat} {d : PyData} (h : (vw ρ)[i]? = some (.val d)) : ρ[i]? = some (.val d) := by
  unfold vw at h
  rw [List.getElem?_map] at h
  cases e : ρ[i]? with
  | none => rw [e] at h; cases h
  | some s =>
    rw [e] at h
    cases s <;> cases h
    rfl
theorem vw_dic {ρ : En} {i : Nat} {d : List (Str × PyData)} (h : (vw ρ)[i]? = some (.dic d)) : ρ[i]? = some (.dic d) := by
  unfold vw at h
  rw [List.getElem?_map] at h
  cases e : ρ[i]? with
  | none => rw [e] at h; cases h
  | some s =>
    rw [e] at h
    cases s <;> cases h
    rfl
theorem vw_own {ρ : En} {i : Nat} {m : Bool} {d : List PyData} (h : (vw ρ)[i]? = some (.own m d)) : False := by
  unfold vw at h
  rw [List.getElem?_map] at h
  cases e : ρ[i]? with
  | none => rw [e] at h; cases h
  | some s =>
    rw [e] at h
    cases s <;> cases h
/-- the heap has grown aside, tables too -/
theorem Rep.left {K : PySem.W.Frag} {F : Fm} {S H : Hp} {σ : L2.St} {ρ : En} (R : Rep K F S H σ ρ) {H' : Hp} (l : Left H H') : Rep K F S H' σ ρ where
  sub := fun b o e => l.at_ b o (fun z => by rw [(R.mt b (R.tfree b z)).2] at e; cases e) (R.sub b o e)
  s0 := R.s0
  fresh := R.fresh
  keep := fun b o q hm => l.at_ b o (fun z => hm (R.tfree b z)) (R.keep b o q hm)
  m0 := R.m0
  mt := fun b hm => ⟨fun z => (R.mt b hm).1 (l.none z), (R.mt b hm).2⟩
  tok := l.tok
  tfree := R.tfree
  len := R.len
  at_ := R.at_
  own := fun i m ds q => by
    obtain ⟨a, vs, h1, h2, h3⟩ := R.own i m ds q
    exact ⟨a, vs, h1, l.at_ a _ (R.tok.nl h2) h2, h3⟩
  apart := R.apart
  dic := R.dic
/-! ### a list that a slot holds alone leaves; a text that is looked for in such a list; what gives a new list, for its value -/
def wOwn (i : Nat) : WA := fun ρ P => ownAt ρ i fun m ds => m = false ∧ P ds (ρ.set i .un)
section
variable {X : Cx} {a b : Expr} {ta tb : TE} {wa wb : W1} {pos : Pos}
theorem en_own (i : Nat) {x : Str} {px : Pos} (hN : X.N[i]? = some x := by rfl) (hv : Vis X.env.scope x := by first | exact Or.inl rfl | exact Or.inr (Or.inl rfl) | exact Or.inr (Or.inr rfl)) (hd : (x == ("__debug__" : Str)) = false := by decide)
    (hcd : (x == ("__classdict__" : Str)) = false := by decide) : EN X (.Name x px) (tVar i) (wOwn i) := ⟨pe_var hN hv hd hcd, fun F ρ P σ S H Q hw R q => by
  obtain ⟨m, ds, e, rfl, hp⟩ := hw.out
  obtain ⟨a, vs, h1, h2, h3, h4, h5⟩ := R.own i false ds e
  refine ⟨.ref a, h1, ?_⟩
  have R2 := R.drop i (some (.ref a))
  have es : σ.set i (some (.ref a)) = σ := by
    refine List.ext_getElem? fun j => ?_
    by_cases hj : i = j
    · subst hj
      rw [List.getElem?_set_self (by exact (List.getElem?_eq_some_iff.mp h1).1), h1]
    · rw [List.getElem?_set_ne hj]
  rw [es] at R2
  refine q ds _ a vs S H hp R2 (Same.refl S) ⟨h2, h3, h5, fun j m' es' z y => ?_⟩ h4
  rcases get_set z with ⟨rfl, z, _⟩ | ⟨hj, z⟩
  · cases z
  · exact R.apart j i m' false es' ds hj z e (by rw [y, h1])⟩
theorem et_notInR (hu : X.A.units + 65 < cLine) (ha : EV X a ta wa) (hb : ER X b tb wb) (hm : behindInMarks .NotIn b = false := by rfl) : ET X (.Compare a [.NotIn] [b] pos) (tTest (tOp (rInQ X.K true) ta tb)) (wB (wOp (gIn true) wa wb)) :=
  ⟨pt_cmpR (op_notInQ hu) ha.pe hb.pe hm, fun F ρ P σ S H Q hw R q => ha.sd F ρ _ σ S H _ hw R fun d ρ1 v S1 H1 h1 R1 s1 d1 => hb.sd F ρ1 _ σ S1 H1 _ h1 R1 fun e ρ2 u S2 H2 h2 R2 s2 d2 => by
    obtain ⟨tupS, ds, rfl, k1, k2, hp⟩ := h2
    exact ⟨d, ds, tupS, (dp_mono (s2.trans R2.sub) d v d1).p, d2.p, k1, k2, _, rfl, q _ ρ2 S2 H2 hp R2 (s1.trans s2)⟩⟩
end
theorem ofN {P : Program} {w : World} {K : PySem.W.Frag} {mg : Str → Option Value} {base : Heap} {k n : Nat} {f : Addr} {fd : FuncData} {ps : List Str} {T : TSn} (G : FnOk P w K mg base (L2.CX P w) k f fd ps (spN K n T)) :
    FnOk P w K mg base (L2.CX P w) k f fd ps (spV K n fun ds Q => T ds fun es => Q (.list es)) := G.imp fun vs H Q E ⟨S, ds, P', sm, fo, hd, hl, hT, q⟩ => ⟨S, ds, _, sm, fo, hd, hl, hT, fun es p us S' H' hp s1 s2 fr kp n1 n2 at_ d => by
  refine q _ (.ref p) (upd S' p (.lst us)) H' hp (s1.trans (same_new n2)) (fun b o e => ?_) (fun b h1 h2 => ?_) kp (.lst (SqQ.of upd_same) (dpAll_mono (same_new n2) es us d))
  · by_cases hb : b = p
    · subst hb
      rw [upd_same] at e
      cases e
      exact at_
    · rw [upd_ne hb] at e
      exact s2 b o e
  · by_cases hb : b = p
    · subst hb
      exact n1
    · rw [upd_ne hb] at h2
      exact fr b h1 h2⟩
/-! x = [.. for .. in range(..)] -/
section
variable {X : Cx} {elt tg a : Expr} {ifs : List Expr} {scope : Scope} {pos p rp : Pos} {ti te : TE} {wi we : W1} {g : TG} {ts : List Nat} {wg : WG} {tt : TT} {wt : WT}
theorem sv_setLcR (i : Nat) {y : Str} {py spos : Pos} (own : List (Str × Nat)) (hm : X.mg "range" = none) (hc : X.calm = true) (hN : X.N.Nodup) (hi : EV X a ti wi) (hok : BlkOk X.N X.env.scope scope own)
    (hsw : swapsWith (.ListComp elt [⟨tg, .Call (.Name "range" p) [a] [] rp, ifs, 0⟩] scope pos) (some (.Name y py)) spos.line X.env = pure true)
    (hg : ∀ (s : Shared) (H : Hp) (C : Addr) (cl : List (Str × Addr)) (fp : List Addr), GV (X.blk s H scope (compEnvC scope cl C X.env) fp) tg g ts wg) (ht : ∀ (s : Shared) (H : Hp) (C : Addr) (cl : List (Str × Addr)) (fp : List Addr), ETs (X.blk s H scope (compEnvC scope cl C X.env) fp) ifs tt wt)
    (he : ∀ (s : Shared) (H : Hp) (C : Addr) (cl : List (Str × Addr)) (fp : List Addr), EV (X.blk s H scope (compEnvC scope cl C X.env) fp) elt te we) (hts : ∀ j ∈ ts, j ∈ own.map (·.2)) (hy : X.N[i]? = some y := by rfl) (hyl : X.env.scope.names.lookup y = some .local := by rfl) (hgl : Gl X "range" := by rfl) (hst : starEach [a] X.env = [(false, eval a X.env)] := by rfl) (hs : ∀ x, foldedSetIterable (.Call (.Name "range" p) [a] [] rp) X.env x = pure x := by intro _; rfl) :
    SV X (.Assign [.Name y py] (.ListComp elt [⟨tg, .Call (.Name "range" p) [a] [] rp, ifs, 0⟩] scope pos) spos) (tAsg (tLc (iRng1 (tCons ti tNil)) g tt te (own.map (·.2))) (gName i)) (wSetN i (wLcR wi wg wt we (own.map (·.2)))) :=
  ⟨ps_setLc hc hN hy hyl hsw (pi_range1 hgl hm (pa_cons hi.pe pa_nil hst) hst) hok (fun s H C cl fp => (hg s H C cl fp).pg) (fun s H C cl fp => (ht s H C cl fp).pt) (fun s H C cl fp => (he s H C cl fp).pe) hs, fun F ρ N σ S H D hw R T =>
    (en_lcR (pos := pos) (p := p) (rp := rp) own hm hc hN hi hok hg ht he hts hgl hst hs).sd F ρ _ σ S H _ hw R fun ds ρ' p vs S' H' hp R' sm B hd => T.nx _ _ S' H' hp (R'.setOwn i B.at_ B.s B.h0 B.ap hd) sm⟩
end
end Tr
set_option Elab.async false
set_option linter.all false
set_option maxRecDepth 100000
set_option maxHeartbeats 2000000
/-! TrY: isinstance with one built-in type; a chain of two comparisons of ints; -n; a module's constant that is a tree; text times a number -/
namespace Tr
open PySem PySem.Spec PyProof.Rows L2
variable [Tabbed]
def isTup : PyData → Bool
  | .tuple _ => true
  | _ => false
def isInt : PyData → Bool
  | .int _ => true
  | .bool _ => true
  | _ => false
def isBool : PyData → Bool
  | .bool _ => true
  | _ => false
def isStrD : PyData → Bool
  | .str _ => true
  | _ => false
/-- the type tn, asked of a tree -/
def Asks (tn : String) (f : PyData → Bool) : Prop := ∀ (K : PySem.W.Frag) (H : Hp) (v : V) (d : PyData), Dq K H v d → PySem.W.kitOne K (.type (tyOf d)) (.type tn) = some (f d)
theorem asks_tuple : Asks "tuple" isTup := fun K H v d h => by
  cases h with
  | non => exact kit_ty (a := "NoneType") (b := "tuple") (r := false) (by decide +kernel)
  | bl b => exact kit_ty (a := "bool") (b := "tuple") (r := false) (by decide +kernel)
  | int i => exact kit_ty (a := "int") (b := "tuple") (r := false) (by decide +kernel)
  | str x => exact kit_ty (a := "str") (b := "tuple") (r := false) (by decide +kernel)
  | lst _ _ => exact kit_ty (a := "list") (b := "tuple") (r := false) (by decide +kernel)
  | tup _ _ => exact kit_ty (a := "tuple") (b := "tuple") (r := true) (by decide +kernel)
theorem asks_int : Asks "int" isInt := fun K H v d h => by
  cases h with
  | non => exact kit_ty (a := "NoneType") (b := "int") (r := false) (by decide +kernel)
  | bl b => exact kit_ty (a := "bool") (b := "int") (r := true) (by decide +kernel)
  | int i => exact kit_ty (a := "int") (b := "int") (r := true) (by decide +kernel)
  | str x => exact kit_ty (a := "str") (b := "int") (r := false) (by decide +kernel)
  | lst _ _ => exact kit_ty (a := "list") (b := "int") (r := false) (by decide +kernel)
  | tup _ _ => exact kit_ty (a := "tuple") (b := "int") (r := false) (by decide +kernel)
theorem asks_bool : Asks "bool" isBool := fun K H v d h => by
  cases h with
  | non => exact kit_ty (a := "NoneType") (b := "bool") (r := false) (by decide +kernel)
  | bl b => exact kit_ty (a := "bool") (b := "bool") (r := true) (by decide +kernel)
  | int i => exact kit_ty (a := "int") (b := "bool") (r := false) (by decide +kernel)
  | str x => exact kit_ty (a := "str") (b := "bool") (r := false) (by decide +kernel)
  | lst _ _ => exact kit_ty (a := "list") (b := "bool") (r := false) (by decide +kernel)
  | tup _ _ => exact kit_ty (a := "tuple") (b := "bool") (r := false) (by decide +kernel)
theorem asks_str : Asks "str" isStrD := fun K H v d h => by
  cases h with
  | non => exact kit_ty (a := "NoneType") (b := "str") (r := false) (by decide +kernel)
  | bl b => exact kit_ty (a := "bool") (b := "str") (r := false) (by decide +kernel)
  | int i => exact kit_ty (a := "int") (b := "str") (r := false) (by decide +kernel)
  | str x => exact kit_ty (a := "str") (b := "str") (r := true) (by decide +kernel)
  | lst _ _ => exact kit_ty (a := "list") (b := "str") (r := false) (by decide +kernel)
  | tup _ _ => exact kit_ty (a := "tuple") (b := "str") (r := false) (by decide +kernel)
def wIs1 (f : PyData → Bool) (we : W1) : W1 := fun ρ P => we ρ fun d ρ1 => P (.bool (f d)) ρ1
def wNeg (we : W1) : W1 := fun ρ P => we ρ fun d ρ1 => asInt d fun i => P (.int (-i)) ρ1
def wChainI (p q : Int → Int → Bool) (wa wb wc : W1) : W1 := fun ρ P => wa ρ fun x ρ1 => wb ρ1 fun y ρ2 => asInt x fun i => asInt y fun j => if p i j = true then wc ρ2 fun z ρ3 => asInt z fun k => P (.bool (q j k)) ρ3 else P (.bool false) ρ2
section
variable {X : Cx} {e a b c : Expr} {te ta tb tc : TE} {we wa wb wc : W1} {k : Nat} {p p1 pos : Pos}
theorem ev_is1 {T : Str} {tn : String} {f : PyData → Bool} (ha : Asks tn f) (hm : X.mg "isinstance" = none) (hmt : X.mg T = none) (he : EV X e te we) (hb : bootBuiltins T = some (.type tn) := by decide +kernel) (hg : Gl X "isinstance" := by rfl) (hgt : Gl X T := by rfl) (hn : T ≠ "__name__" := by decide) (hdb : (T == ("__debug__" : Str)) = false := by decide)
    (hs1 : starEach [e, .Name T p1] X.env = (false, eval e X.env) :: starEach [.Name T p1] X.env := by rfl) (hs2 : starEach [.Name T p1] X.env = (false, eval (.Name T p1) X.env) :: starEach [] X.env := by rfl)
    (hpl : (backTo pos (starEach [.Name T p1] X.env)).any (·.1) = false := by rfl) :
    EV X (.Call (.Name "isinstance" p) [e, .Name T p1] [] pos) (tCB (rIsi X.K) (tCons te (tCons (tC (.ty tn)) tNil))) (wIs1 f we) :=
  ⟨pe_callB call_isi hg hm (by decide +kernel) (pa_cons he.pe (pa_cons (pe_bltn hgt hmt (v := .ty tn) (u := .type tn) hb rfl hn hdb) pa_nil hs2) hs1) (by decide) (by decide) hs1 hpl, fun F ρ P σ S H Q hw R q =>
    he.sd F ρ _ σ S H _ hw R fun d ρ1 v S1 H1 h1 R1 s1 d1 => by
      have d2 : Dq X.K H1 v d := dp_mono R1.sub d v d1
      exact ⟨v, .ty tn, _, .type tn, f d, rfl, .ty _, dq_ty d2, ha _ _ _ _ d2, q _ ρ1 _ S1 _ h1 R1 s1 (.bl _)⟩⟩
theorem ev_neg (he : EV X e te we) : EV X (.UnaryOp .USub e pos) (tUn (rU fun i => .int (-i)) te) (wNeg we) := ⟨pe_un un_neg he.pe, fun F ρ P σ S H Q hw R q =>
    he.sd F ρ _ σ S H _ hw R fun d ρ1 v S1 H1 h1 R1 s1 d1 => by
      obtain ⟨i, rfl, h1⟩ := h1.out
      cases d1
      exact ⟨i, rfl, q _ ρ1 _ S1 _ h1 R1 s1 (.int _)⟩⟩
theorem ev_leLt (ha : EV X a ta wa) (hb : EV X b tb wb) (hc : EV X c tc wc) (hm : lastMarks [.LtE, .Lt] [b, c] = false := by with_unfolding_all rfl) :
    EV X (.Compare a [.LtE, .Lt] [b, c] pos) (tChain (rI0 fun i j => .bl (decide (i ≤ j))) (rI0 fun i j => .bl (decide (i < j))) ta tb tc) (wChainI (fun i j => decide (i ≤ j)) (fun i j => decide (i < j)) wa wb wc) :=
  ⟨pe_chain op_le op_lt ha.pe hb.pe hc.pe hm, fun F ρ P σ S H Q hw R q =>
    ha.sd F ρ _ σ S H _ hw R fun x ρ1 vx S1 H1 h1 R1 s1 d1 => hb.sd F ρ1 _ σ S1 H1 _ h1 R1 fun y ρ2 vy S2 H2 h2 R2 s2 d2 => by
      obtain ⟨i, ex, h3⟩ := h2.out
      obtain ⟨j, ey, h4⟩ := h3.out
      subst ex ey
      replace h2 : (if (decide (i ≤ j)) = true then wc ρ2 fun z ρ3 => asInt z fun k => P (.bool (decide (j < k))) ρ3 else P (.bool false) ρ2) := h4
      clear h3 h4
      cases d1
      cases d2
      refine ⟨i, j, rfl, rfl, decide (i ≤ j), rfl, ?_⟩
      by_cases hij : (decide (i ≤ j)) = true
      · rw [if_pos hij] at h2 ⊢
        exact hc.sd F ρ2 _ σ S2 H2 _ h2 R2 fun z ρ3 vz S3 H3 h3 R3 s3 d3 => by
          obtain ⟨k, rfl, h3⟩ := h3.out
          cases d3
          exact ⟨j, k, rfl, rfl, q _ ρ3 _ S3 H3 h3 R3 (s1.trans (s2.trans s3)) (.bl _)⟩
      · rw [if_neg hij] at h2 ⊢
        exact q _ ρ2 _ S2 H2 h2 R2 (s1.trans s2) (.bl _)⟩
/-- a module's constant -/
theorem ev_const {x : Str} {v : V} {d : PyData} {u : Value} {pos' : Pos} (hm : X.mg x = some u) (r : RelV v u) (hd : ∀ S : Hp, Dq X.K S v d) (hg : Gl X x := by rfl) (hdb : (x == ("__debug__" : Str)) = false := by decide) : EV X (.Name x pos') (tC v) (wC d) :=
  ⟨pe_glob hg hm r hdb, fun F ρ P σ S H Q hw R q => q _ ρ _ S H hw R (Same.refl S) (hd S)⟩
end
end Tr
set_option Elab.async false
set_option linter.all false
set_option maxRecDepth 100000
set_option maxHeartbeats 2000000
/-! TrZ: a text times a number; a comprehension over range(a, b) -/
namespace Tr
open PySem PySem.Spec PyProof.Rows L2
variable [Tabbed]
def rMulS : R2 := fun x y H Q => ∃ (s : Str) (n : Int), x = .str s ∧ y = .int n ∧ MulOk s n ∧ Q (.str (Txt.mul s n)) H
def gMulS : PyData → PyData → (PyData → Prop) → Prop := fun x y P => match x, y with
  | .str s, .int n => MulOk s n ∧ P (.str (Txt.mul s n))
  | _, _ => False
theorem lift_mulS {K : PySem.W.Frag} : Lift2 K rMulS gMulS := fun S H x y d e P Q sm dx dy hg q => by
  unfold gMulS at hg
  split at hg
  · cases dx
    cases dy
    exact ⟨_, _, rfl, rfl, hg.1, q _ _ hg.2 (.str _)⟩
  · exact hg.elim
theorem op_mulS {X : Cx} : OpR X (binaryOp .Mult) rMulS := by
  intro pins s σ H x y v u Q I rx ry h
  obtain ⟨a, n, rfl, rfl, ok, q⟩ := h
  obtain ⟨t, rfl⟩ := rx
  obtain ⟨t', rfl⟩ := ry
  exact PySem.SB.mul ok fun tk k => ⟨.str _, H, I.tok k, ⟨_, rfl⟩, q⟩
theorem ev_mulS {X : Cx} {a b : Expr} {ta tb : TE} {wa wb : W1} {pos : Pos} (ha : EV X a ta wa) (hb : EV X b tb wb) : EV X (.BinOp a .Mult b pos) (tOp rMulS ta tb) (wOp gMulS wa wb) := ev_bin op_mulS lift_mulS ha hb
/-- a comprehension over range(a, b) -/
def wLcR2 (wa : WA) (wg : WG) (wt : WT) (we : W1) (ws : List Nat) : WA := fun ρ P => wa ρ fun ds ρ1 => ∃ lo hi : Int, ds = [.int lo, .int hi] ∧ (-(2 ^ 62) ≤ lo ∧ lo < 2 ^ 62 ∧ -(2 ^ 62) ≤ hi ∧ hi < 2 ^ 62) ∧ ∃ I : Nat → List PyData → En → Prop, I 0 [] ρ1 ∧
  (∀ (k : Nat) acc ρ2, k < (hi - lo).toNat → I k acc ρ2 → wTurn wg wt we ws I k (.int (lo + k)) acc ρ2) ∧ ∀ acc ρ2, I (hi - lo).toNat acc ρ2 → P acc ρ2
section
variable {X : Cx} {elt tg a b : Expr} {ifs : List Expr} {scope : Scope} {pos p rp : Pos} {ta : TA} {te : TE} {wa : WA} {we : W1} {g : TG} {ts : List Nat} {wg : WG} {tt : TT} {wt : WT}
theorem en_lcR2 (own : List (Str × Nat)) (hm : X.mg "range" = none) (hc : X.calm = true) (hN : X.N.Nodup) (hi : EA X [a, b] ta wa) (hok : BlkOk X.N X.env.scope scope own)
    (hg : ∀ (s : Shared) (H : Hp) (C : Addr) (cl : List (Str × Addr)) (fp : List Addr), GV (X.blk s H scope (compEnvC scope cl C X.env) fp) tg g ts wg) (ht : ∀ (s : Shared) (H : Hp) (C : Addr) (cl : List (Str × Addr)) (fp : List Addr), ETs (X.blk s H scope (compEnvC scope cl C X.env) fp) ifs tt wt)
    (he : ∀ (s : Shared) (H : Hp) (C : Addr) (cl : List (Str × Addr)) (fp : List Addr), EV (X.blk s H scope (compEnvC scope cl C X.env) fp) elt te we) (hts : ∀ j ∈ ts, j ∈ own.map (·.2)) (hgl : Gl X "range" := by rfl) (hst : starEach [a, b] X.env = [(false, eval a X.env), (false, eval b X.env)] := by rfl) (hst2 : starEach [b] X.env = [(false, eval b X.env)] := by rfl)
    (hs : ∀ x, foldedSetIterable (.Call (.Name "range" p) [a, b] [] rp) X.env x = pure x := by intro _; rfl) :
    EN X (.ListComp elt [⟨tg, .Call (.Name "range" p) [a, b] [] rp, ifs, 0⟩] scope pos) (tLc (iRng2 ta) g tt te (own.map (·.2))) (wLcR2 wa wg wt we (own.map (·.2))) :=
  ⟨pe_lc hc hN (pi_range2 hgl hm hi.pa hst hst2) hok (fun s H C cl fp => (hg s H C cl fp).pg) (fun s H C cl fp => (ht s H C cl fp).pt) (fun s H C cl fp => (he s H C cl fp).pe) hs, fun F ρ P σ S H Q hw R q =>
    hi.sd F ρ _ σ S H _ hw R fun ds ρ1 vs S1 H1 h1 R1 s1 d1 => by
      obtain ⟨lo, hb, rfl, bd, I, i0, turn, hf⟩ := h1
      obtain ⟨v1, v2, rfl⟩ : ∃ v1 v2, vs = [v1, v2] := by
        cases d1 with
        | cons x1 x2 =>
          cases x2 with
          | cons x3 x4 =>
            cases x4
            exact ⟨_, _, rfl⟩
      have e1 : v1 = .int lo ∧ v2 = .int hb := by
        cases d1 with
        | cons x1 x2 =>
          cases x2 with
          | cons x3 x4 =>
            cases x1
            cases x3
            exact ⟨rfl, rfl⟩
      obtain ⟨rfl, rfl⟩ := e1
      refine ⟨lo, hb, rfl, bd, fun D n => lc_range (lo := lo) (n := (hb - lo).toNat) (LcAt X.K F S1 σ D I) ⟨S1, ρ1, [], [], R1.lay n _, Same.refl _, R1.bare n, .nil, i0⟩ (fun i H hlt hL => ?_) fun H ⟨S', ρ', acc, us, R', sm, B, da, hI⟩ => q acc ρ' D us S' H (hf acc ρ' hI) R' (s1.trans sm) B da⟩
      exact lc_turn (fun F ρ P σ S H v d Q => (hg {} (fun _ => none) 0 [] []).sd F ρ P σ S H v d Q) (fun F ρ P σ S H Q => (ht {} (fun _ => none) 0 [] []).sd F ρ P σ S H Q) (fun F ρ P σ S H Q => (he {} (fun _ => none) 0 [] []).sd F ρ P σ S H Q) hts (.int _)
        (fun z => R1.m0 D z (R1.h0 n)) (same_none R1.s0 (same_none R1.sub n)) (fun acc ρ2 hI => turn i acc ρ2 hlt hI) hL⟩
end
end Tr
set_option Elab.async false
set_option linter.all false
set_option maxRecDepth 100000
set_option maxHeartbeats 2000000
/-! TrP: comprehensions over the signs of a text; a sign in a text; < of trees; is True, is False -/
namespace Tr
open PySem PySem.Spec PyProof.Rows L2
variable [Tabbed]
/-! ### [elt for c in text if ..] -/
def wLcS (wi : W1) (wg : WG) (wt : WT) (we : W1) (ws : List Nat) : WA := fun ρ P => wi ρ fun d ρ1 => ∃ x : Str, d = .str x ∧ ∃ I : Nat → List PyData → En → Prop, I 0 [] ρ1 ∧
  (∀ (k c : Nat) acc ρ2, x.cps[k]? = some c → I k acc ρ2 → wTurn wg wt we ws I k (.str ⟨#[c]⟩) acc ρ2) ∧ ∀ acc ρ2, I x.cps.size acc ρ2 → P acc ρ2
/-- what a turn of a comprehension is to reach -/
def Reach (g : TG) (tt : TT) (te : TE) (vs : List Nat) (σ : L2.St) (D : Addr) (Nx : Hp → Prop) (x : V) (H : Hp) : Prop :=
  g x (wipe σ vs) H fun σ2 H2 => wipe σ2 vs = wipe σ vs ∧ tt σ2 H2 fun b H3 =>
    if b = true then te σ2 H3 fun y H4 => ∃ acc, H4 D = some (.lst acc) ∧ acc.length < sizeLine ∧ Nx (upd H4 D (.lst (acc ++ [y]))) else Nx H3
theorem lc_signs {x : Str} {g : TG} {tt : TT} {te : TE} {vs : List Nat} {σ : L2.St} {H1 : Hp} {D : Addr} {Qd : Hp → Prop} (Pv : Nat → Hp → Prop) (start : Pv 0 (upd H1 D (.lst [])))
    (turn : ∀ i c H, x.cps[i]? = some c → Pv i H → Reach g tt te vs σ D (Pv (i + 1)) (.str ⟨#[c]⟩) H) (fin : ∀ H, Pv x.cps.size H → Qd H) :
    ∃ W : Nat → Nat → Hp → Prop, (∃ m, W 0 m (upd H1 D (.lst []))) ∧ ∀ i m H, W i m H →
      ((Its x).stop i H ∧ Qd H) ∨ ((Its x).go i H ∧ ∃ Nx : Hp → Prop, (∀ H', Nx H' → ∃ m', m' < m ∧ W (i + 1) m' H') ∧ ∀ y H', (Its x).yld i H y H' → Reach g tt te vs σ D Nx y H') := by
  refine ⟨fun i m H => m = x.cps.size - i ∧ i ≤ x.cps.size ∧ Pv i H, ⟨x.cps.size, rfl, Nat.zero_le _, start⟩, ?_⟩
  rintro i m H ⟨rfl, hi, pv⟩
  rcases Nat.lt_or_ge i x.cps.size with lt | ge
  · refine .inr ⟨lt, Pv (i + 1), fun H' p2 => ⟨x.cps.size - (i + 1), by omega, rfl, lt, p2⟩, fun y H' yl => ?_⟩
    obtain ⟨e1, c, hc, e2⟩ := yl
    subst e1 e2
    exact turn i c _ hc pv
  · have e : i = x.cps.size := Nat.le_antisymm hi ge
    subst e
    exact .inl ⟨Nat.le_refl _, fin H pv⟩
section
variable {X : Cx} {elt tg it : Expr} {ifs : List Expr} {scope : Scope} {pos : Pos} {ti te : TE} {wi we : W1} {g : TG} {ts : List Nat} {wg : WG} {tt : TT} {wt : WT}
theorem en_lcS (own : List (Str × Nat)) (hc : X.calm = true) (hN : X.N.Nodup) (hi : EV X it ti wi) (hok : BlkOk X.N X.env.scope scope own)
    (hg : ∀ (s : Shared) (H : Hp) (C : Addr) (cl : List (Str × Addr)) (fp : List Addr), GV (X.blk s H scope (compEnvC scope cl C X.env) fp) tg g ts wg) (ht : ∀ (s : Shared) (H : Hp) (C : Addr) (cl : List (Str × Addr)) (fp : List Addr), ETs (X.blk s H scope (compEnvC scope cl C X.env) fp) ifs tt wt)
    (he : ∀ (s : Shared) (H : Hp) (C : Addr) (cl : List (Str × Addr)) (fp : List Addr), EV (X.blk s H scope (compEnvC scope cl C X.env) fp) elt te we) (hts : ∀ j ∈ ts, j ∈ own.map (·.2)) (hs : ∀ x, foldedSetIterable it X.env x = pure x := by intro _; rfl) :
    EN X (.ListComp elt [⟨tg, it, ifs, 0⟩] scope pos) (tLc (iStr ti) g tt te (own.map (·.2))) (wLcS wi wg wt we (own.map (·.2))) :=
  ⟨pe_lc hc hN (pi_str hi.pe) hok (fun s H C cl fp => (hg s H C cl fp).pg) (fun s H C cl fp => (ht s H C cl fp).pt) (fun s H C cl fp => (he s H C cl fp).pe) hs, fun F ρ P σ S H Q hw R q =>
    hi.sd F ρ _ σ S H _ hw R fun d ρ1 v S1 H1 h1 R1 s1 d1 => by
      obtain ⟨x, rfl, I, i0, turn, hf⟩ := h1
      cases d1
      refine ⟨x, rfl, fun D n => lc_signs (x := x) (LcAt X.K F S1 σ D I) ⟨S1, ρ1, [], [], R1.lay n _, Same.refl _, R1.bare n, .nil, i0⟩ (fun i c H hcx hL => ?_) fun H ⟨S', ρ', acc, us, R', sm, B, da, hI⟩ => q acc ρ' D us S' H (hf acc ρ' hI) R' (s1.trans sm) B da⟩
      exact lc_turn (fun F ρ P σ S H v d Q => (hg {} (fun _ => none) 0 [] []).sd F ρ P σ S H v d Q) (fun F ρ P σ S H Q => (ht {} (fun _ => none) 0 [] []).sd F ρ P σ S H Q) (fun F ρ P σ S H Q => (he {} (fun _ => none) 0 [] []).sd F ρ P σ S H Q) hts (.str _)
        (fun z => R1.m0 D z (R1.h0 n)) (same_none R1.s0 (same_none R1.sub n)) (fun acc ρ2 hI => turn i c acc ρ2 hcx hI) hL⟩
end
/-! ### a sign in a text -/
def rSign (neg : Bool) : R2 := fun x y H Q => ∃ (c : Nat) (z : Str), x = .str ⟨#[c]⟩ ∧ y = .str z ∧ Q (.bl (if neg = true then !decide (c ∈ z.cps.toList) else decide (c ∈ z.cps.toList))) H
def gSign (neg : Bool) : PyData → PyData → (PyData → Prop) → Prop := fun x y P => ∃ (c : Nat) (z : Str), x = .str ⟨#[c]⟩ ∧ y = .str z ∧ P (.bool (if neg = true then !decide (c ∈ z.cps.toList) else decide (c ∈ z.cps.toList)))
theorem lift_sign {K : PySem.W.Frag} {neg : Bool} : Lift2 K (rSign neg) (gSign neg) := fun S H x y d e P Q sm dx dy hg q => by
  obtain ⟨c, z, rfl, rfl, hp⟩ := hg
  cases dx
  cases dy
  exact ⟨c, z, rfl, rfl, q _ _ hp (.bl _)⟩
theorem op_sign {X : Cx} : OpR X (compareOp .In) (rSign false) := op_in_sign
theorem op_noSign {X : Cx} : OpR X (compareOp .NotIn) (rSign true) := op_notIn_sign
/-! ### < of trees -/
def rLtD (K : PySem.W.Frag) : R2 := fun x y H Q => ∃ d e, Dp K H x d ∧ Dp K H y e ∧ PySem.W.alike d e = true ∧ d ≠ .none ∧ d.depth ≤ 64 ∧ Q (.bl (PySem.W.dataLt d e)) H
def gLtD : PyData → PyData → (PyData → Prop) → Prop := fun x y P => PySem.W.alike x y = true ∧ x ≠ .none ∧ x.depth ≤ 64 ∧ P (.bool (PySem.W.dataLt x y))
theorem op_ltD {X : Cx} (hu : X.A.units + 64 < cLine) : OpR X (compareOp .Lt) (rLtD X.K) := fun pins s σ H x y v u Q I rx ry h => by
  obtain ⟨d, e, hd, he, al, nn, dp, q⟩ := h
  obtain ⟨as, r1⟩ := Dp.reads I d x v hd rx
  obtain ⟨bs, r2⟩ := Dp.reads I e y u he ry
  exact PySem.W.lt_data r1 r2 al nn (by omega) ⟨.bl _, H, I, rfl, q⟩
theorem lift_ltD {K : PySem.W.Frag} : Lift2 K (rLtD K) gLtD := fun S H x y d e P Q sm dx dy hg q => ⟨d, e, (dp_mono sm d x dx).p, (dp_mono sm e y dy).p, hg.1, hg.2.1, hg.2.2.1, q _ _ hg.2.2.2 (.bl _)⟩
/-! ### is True, is False -/
def isB (b : Bool) : PyData → Bool
  | .bool c => c == b
  | _ => false
def rIsB0 (neg : Bool) (K : PySem.W.Frag) : R2 := fun x y H Q => ∃ d b, Dq K H x d ∧ y = .bl b ∧ Q (.bl (if neg = true then !isB b d else isB b d)) H
def gIsB (neg : Bool) : PyData → PyData → (PyData → Prop) → Prop := fun x y P => ∃ b, y = .bool b ∧ P (.bool (if neg = true then !isB b x else isB b x))
theorem isB_val {K : PySem.W.Frag} {H : Hp} {x : V} {d : PyData} {v : Value} (hd : Dq K H x d) (r : RelV x v) (b : Bool) : plainIs v (.bool b) = true ∧ (v == Value.bool b) = isB b d := by
  cases hd with
  | non => cases r; exact ⟨rfl, rfl⟩
  | bl c =>
    cases (show v = Value.bool c from r)
    refine ⟨rfl, ?_⟩
    cases c <;> cases b <;> rfl
  | int i => obtain ⟨t, rfl⟩ := r; exact ⟨rfl, rfl⟩
  | str x => obtain ⟨t, rfl⟩ := r; exact ⟨rfl, rfl⟩
  | lst _ _ => cases r; exact ⟨rfl, rfl⟩
  | tup _ _ => cases r; exact ⟨rfl, rfl⟩
theorem op_isB {X : Cx} : OpR X (compareOp .Is) (rIsB0 false X.K) := fun pins s σ H x y v u Q I rx ry h => by
  obtain ⟨d, b, hd, rfl, q⟩ := h
  cases (show u = Value.bool b from ry)
  obtain ⟨h1, h2⟩ := isB_val hd rx b
  exact wpAny_is_plain h1 (by rw [h2]; exact ⟨.bl _, H, I, rfl, q⟩)
theorem op_isNotB {X : Cx} : OpR X (compareOp .IsNot) (rIsB0 true X.K) := fun pins s σ H x y v u Q I rx ry h => by
  obtain ⟨d, b, hd, rfl, q⟩ := h
  cases (show u = Value.bool b from ry)
  obtain ⟨h1, h2⟩ := isB_val hd rx b
  exact wpAny_isNot_plain h1 (by rw [h2]; exact ⟨.bl _, H, I, rfl, q⟩)
theorem lift_isB {K : PySem.W.Frag} {neg : Bool} : Lift2 K (rIsB0 neg K) (gIsB neg) := fun S H x y d e P Q sm dx dy hg q => by
  obtain ⟨b, rfl, hp⟩ := hg
  cases dy
  exact ⟨d, b, dp_mono sm d x dx, rfl, q _ _ hp (.bl _)⟩
section
variable {X : Cx} {a b : Expr} {ta tb : TE} {wa wb : W1} {pos : Pos}
theorem ev_inS (ha : EV X a ta wa) (hb : EV X b tb wb) (hm : behindInMarks .In b = false := by rfl) : EV X (.Compare a [.In] [b] pos) (tOp (rSign false) ta tb) (wOp (gSign false) wa wb) := ev_cmpI op_sign lift_sign ha hb hm
theorem et_inS (ha : EV X a ta wa) (hb : EV X b tb wb) (hm : behindInMarks .In b = false := by rfl) : ET X (.Compare a [.In] [b] pos) (tTest (tOp (rSign false) ta tb)) (wB (wOp (gSign false) wa wb)) := et_cmp op_sign lift_sign ha hb hm
theorem et_notInS (ha : EV X a ta wa) (hb : EV X b tb wb) (hm : behindInMarks .NotIn b = false := by rfl) : ET X (.Compare a [.NotIn] [b] pos) (tTest (tOp (rSign true) ta tb)) (wB (wOp (gSign true) wa wb)) := et_cmp op_noSign lift_sign ha hb hm
theorem ev_ltD (hu : X.A.units + 64 < cLine) (ha : EV X a ta wa) (hb : EV X b tb wb) : EV X (.Compare a [.Lt] [b] pos) (tOp (rLtD X.K) ta tb) (wOp gLtD wa wb) := ev_cmpI (op_ltD hu) lift_ltD ha hb (nomark _)
theorem ev_isB (ha : EV X a ta wa) (hb : EV X b tb wb) : EV X (.Compare a [.Is] [b] pos) (tOp (rIsB0 false X.K) ta tb) (wOp (gIsB false) wa wb) := ev_cmpI op_isB lift_isB ha hb (nomark _)
theorem et_isNotB (ha : EV X a ta wa) (hb : EV X b tb wb) : ET X (.Compare a [.IsNot] [b] pos) (tTest (tOp (rIsB0 true X.K) ta tb)) (wB (wOp (gIsB true) wa wb)) := et_cmp op_isNotB lift_isB ha hb (nomark _)
theorem ev_leLe {c : Expr} {tc : TE} {wc : W1} (ha : EV X a ta wa) (hb : EV X b tb wb) (hc : EV X c tc wc) (hm : lastMarks [.LtE, .LtE] [b, c] = false := by with_unfolding_all rfl) :
    EV X (.Compare a [.LtE, .LtE] [b, c] pos) (tChain (rI0 fun i j => .bl (decide (i ≤ j))) (rI0 fun i j => .bl (decide (i ≤ j))) ta tb tc) (wChainI (fun i j => decide (i ≤ j)) (fun i j => decide (i ≤ j)) wa wb wc) :=
  ⟨pe_chain op_le op_le ha.pe hb.pe hc.pe hm, fun F ρ P σ S H Q hw R q =>
    ha.sd F ρ _ σ S H _ hw R fun x ρ1 vx S1 H1 h1 R1 s1 d1 => hb.sd F ρ1 _ σ S1 H1 _ h1 R1 fun y ρ2 vy S2 H2 h2 R2 s2 d2 => by
      obtain ⟨i, ex, h3⟩ := h2.out
      obtain ⟨j, ey, h4⟩ := h3.out
      subst ex ey
      clear h2 h3
      cases d1
      cases d2
      refine ⟨i, j, rfl, rfl, decide (i ≤ j), rfl, ?_⟩
      by_cases hij : (decide (i ≤ j)) = true
      · rw [if_pos hij] at h4 ⊢
        exact hc.sd F ρ2 _ σ S2 H2 _ h4 R2 fun z ρ3 vz S3 H3 h3 R3 s3 d3 => by
          obtain ⟨k, rfl, h3⟩ := h3.out
          cases d3
          exact ⟨j, k, rfl, rfl, q _ ρ3 _ S3 H3 h3 R3 (s1.trans (s2.trans s3)) (.bl _)⟩
      · rw [if_neg hij] at h4 ⊢
        exact q _ ρ2 _ S2 H2 h4 R2 (s1.trans s2) (.bl _)⟩
/-- one reading or another -/
theorem ev_alt {t2 : TE} {w2 : W1} (h1 : EV X a ta wa) (h2 : EV X a t2 w2) : EV X a (fun σ H Q => ta σ H Q ∨ t2 σ H Q) (fun ρ P => wa ρ P ∨ w2 ρ P) :=
  ⟨⟨fun pins s σ H Q I h => h.elim (fun h => h1.pe.run pins s σ H Q I h) fun h => h2.pe.run pins s σ H Q I h⟩, fun F ρ P σ S H Q hw R q => hw.elim (fun h => .inl (h1.sd F ρ P σ S H Q h R q)) fun h => .inr (h2.sd F ρ P σ S H Q h R q)⟩
end
end Tr
set_option Elab.async false
set_option linter.all false
set_option maxRecDepth 100000
set_option maxHeartbeats 2000000
/-! TrP2: a chain of comparisons as a test -/
namespace Tr
open PySem PySem.Spec PyProof.Rows L2
variable [Tabbed]
section
variable {X : Cx} {a b c : Expr} {ta tb tc : TE} {wa wb wc : W1} {pos : Pos}
theorem et_leLe (ha : EV X a ta wa) (hb : EV X b tb wb) (hc : EV X c tc wc) (hm : lastMarks [.LtE, .LtE] [b, c] = false := by with_unfolding_all rfl) :
    ET X (.Compare a [.LtE, .LtE] [b, c] pos) (tTest (tChain (rI0 fun i j => .bl (decide (i ≤ j))) (rI0 fun i j => .bl (decide (i ≤ j))) ta tb tc)) (wB (wChainI (fun i j => decide (i ≤ j)) (fun i j => decide (i ≤ j)) wa wb wc)) :=
  ⟨pt_chain op_le op_le ha.pe hb.pe hc.pe hm, snd_Test (ev_leLe (pos := pos) ha hb hc hm).sd⟩
end
end Tr
set_option Elab.async false
set_option linter.all false
set_option maxRecDepth 100000
set_option maxHeartbeats 2000000
/-! TrP3: for x in range(a, b); a slot is forgotten -/
namespace Tr
open PySem PySem.Spec PyProof.Rows L2
variable [Tabbed]
/-- nothing is known of a slot any more -/
theorem Rep.forget {K : PySem.W.Frag} {F : Fm} {S H : Hp} {σ : L2.St} {ρ : En} (R : Rep K F S H σ ρ) (i : Nat) : Rep K F S H σ (ρ.set i .un) := by
  have key : ∀ {j : Nat} {x : Sl}, (ρ.set i .un)[j]? = some x → x ≠ .un → ρ[j]? = some x := fun {j x} e hx => by
    rcases get_set e with ⟨_, e, _⟩ | ⟨_, e⟩
    · exact absurd e hx
    · exact e
  refine ⟨R.sub, R.s0, R.fresh, R.keep, R.m0, R.mt, R.tok, R.tfree, by rw [List.length_set]; exact R.len, fun j d e => R.at_ j d (key e (by simp)), fun j m ds e => R.own j m ds (key e (by simp)), fun j l m n ds es hne e e' => R.apart j l m n ds es hne (key e (by simp)) (key e' (by simp)), fun j m e => R.dic j m (key e (by simp))⟩
def wForget (i : Nat) (w : WS) : WS := fun ρ N => w (ρ.set i .un) N
section
variable {X : Cx} {pos : Pos}
theorem sv_forget (i : Nat) {st : Stmt} {t : TS} {w : WS} (h : SV X st t w) : SV X st t (wForget i w) := ⟨h.ps, fun F ρ N σ S H D hw R T => h.sd F _ N σ S H D hw (R.forget i) T⟩
/-- for x in range(a, b) -/
def wForR2 (wa : WA) (wg : WG) (wb : WS) : WS := fun ρ N => wa ρ fun ds ρ1 => ∃ lo hi : Int, ds = [.int lo, .int hi] ∧ (-(2 ^ 62) ≤ lo ∧ lo < 2 ^ 62 ∧ -(2 ^ 62) ≤ hi ∧ hi < 2 ^ 62) ∧ ∃ I : Nat → En → Prop, I 0 ρ1 ∧
  (∀ (k : Nat) ρ2, k < (hi - lo).toNat → I k ρ2 → wg (.int (lo + k)) ρ2 fun ρ3 => Later wb ρ3 { N with nx := I (k + 1), ct := I (k + 1), bk := N.nx }) ∧ ∀ ρ2, I (hi - lo).toNat ρ2 → N.nx ρ2
theorem sv_forR2 {tg a b : Expr} {body : List Stmt} {ta : TA} {wa : WA} {g : TG} {wg : WG} {tb : TS} {wb : WS} {p rp : Pos} {ts : List Nat} (hm : X.mg "range" = none) (hi : EA X [a, b] ta wa) (hg : GV X tg g ts wg) (hb : SVs X body tb wb)
    (hp : PassesOwn (model X.prog X.w) X.A X.env X.xe) (hc : X.calm = true) (hgl : Gl X "range" := by rfl) (hst : starEach [a, b] X.env = [(false, eval a X.env), (false, eval b X.env)] := by rfl) (hst2 : starEach [b] X.env = [(false, eval b X.env)] := by rfl)
    (hs : ∀ x, foldedSetIterable (.Call (.Name "range" p) [a, b] [] rp) X.env x = pure x := by intro _; rfl) :
    SV X (.For tg (.Call (.Name "range" p) [a, b] [] rp) body [] pos) (tFor (iRng2 ta) g tb) (wForR2 wa wg wb) := ⟨ps_for hp hc (pi_range2 hgl hm hi.pa hst hst2) hg.pg hb.ps hs, fun F ρ N σ S H D hw R T =>
  hi.sd F ρ _ σ S H _ hw R fun ds ρ1 vs S1 H1 h1 R1 s1 d1 => by
    obtain ⟨lo, hb', rfl, bd, I, i0, turn, fin⟩ := h1
    cases d1 with
    | cons x1 x2 =>
      cases x1
      cases x2 with
      | cons x3 x4 =>
        cases x3
        cases x4
        refine ⟨lo, hb', rfl, bd, for_range (lo := lo) (n := (hb' - lo).toNat) (fun i σ H => ∃ S' ρ', Rep X.K F S' H σ ρ' ∧ Same S1 S' ∧ I i ρ') ⟨S1, ρ1, R1, Same.refl _, i0⟩ (fun i σ H hi' ⟨S', ρ', R', sm, hI⟩ => ?_) fun σ H ⟨S', ρ', R', sm, hI⟩ => T.nx ρ' σ S' H (fin ρ' hI) R' (s1.trans sm)⟩
        refine hg.sd F ρ' _ σ S' H _ _ _ (turn i ρ' hi' hI) R' (.int _) fun ρ3 σ3 h3 R3 _ => ?_
        exact hb.sd F ρ3 _ σ3 S' H _ h3 R3 ⟨fun ρ4 σ4 S4 H4 h4 R4 s4 => ⟨S4, ρ4, R4, sm.trans s4, h4⟩, fun d4 ρ4 v4 σ4 S4 H4 h4 R4 s4 d4' => T.rt d4 ρ4 v4 σ4 S4 H4 h4 R4 (s1.trans (sm.trans s4)) d4',
          fun ρ4 σ4 S4 H4 h4 R4 s4 => T.nx ρ4 σ4 S4 H4 h4 R4 (s1.trans (sm.trans s4)), fun ρ4 σ4 S4 H4 h4 R4 s4 => ⟨S4, ρ4, R4, sm.trans s4, h4⟩, fun d4 ρ4 p4 v4 σ4 S4 H4 h4 R4 s4 B4 k4 => T.rn d4 ρ4 p4 v4 σ4 S4 H4 h4 R4 (s1.trans (sm.trans s4)) B4 k4⟩⟩
end
end Tr
set_option Elab.async false
set_option linter.all false
set_option maxRecDepth 100000
set_option maxHeartbeats 2000000
/-! TrP4: a tuple times a number; a text and a text -/
namespace Tr
open PySem PySem.Spec PyProof.Rows L2
variable [Tabbed]
def gRepT : PyData → PyData → (PyData → Prop) → Prop := fun x y P => match x, y with
  | .tuple ds, .int k => ds ≠ [] ∧ 2 ≤ k ∧ k ≤ 1000 ∧ ds.length ≤ 1000 ∧ P (.tuple (List.replicate k.toNat ds).flatten)
  | _, _ => False
theorem rep_dp {K : PySem.W.Frag} {S : Hp} {vs : List V} {ds : List PyData} (h : DqAll K S vs ds) : ∀ n : Nat, DqAll K S (List.replicate n vs).flatten (List.replicate n ds).flatten
  | 0 => .nil
  | n + 1 => by
    rw [List.replicate_succ, List.replicate_succ, List.flatten_cons, List.flatten_cons]
    exact h.append (rep_dp h n)
theorem lift_repT {K : PySem.W.Frag} : Lift2T K (rRepT K) gRepT := fun S H x y d e P Q sm dx dy hg q q2 => by
  unfold gRepT at hg
  split at hg
  · rename_i ds k
    cases dx with
    | tup s1 a1 =>
      cases dy
      have h1 := a1.len
      exact ⟨_, _, _, rfl, rfl, same_sqT sm s1, fun e => hg.1 (List.eq_nil_of_length_eq_zero (by rw [← h1, e]; rfl)), hg.2.1, hg.2.2.1, by rw [h1]; exact hg.2.2.2.1, fun p n => q2 p _ _ n hg.2.2.2.2 (rep_dp a1 _)⟩
  · exact hg.elim
theorem ev_repT {X : Cx} {a b : Expr} {ta tb : TE} {wa wb : W1} {pos : Pos} (ha : EV X a ta wa) (hb : EV X b tb wb) : EV X (.BinOp a .Mult b pos) (tOp (rRepT X.K) ta tb) (wOp gRepT wa wb) := ⟨pe_op op_repT ha.pe hb.pe, snd_opT lift_repT ha.sd hb.sd⟩
def rAddS : R2 := fun x y H Q => ∃ i j : Str, x = .str i ∧ y = .str j ∧ i.length + j.length ≤ sizeLine ∧ Q (.str (i ++ j)) H
def gAddS : PyData → PyData → (PyData → Prop) → Prop := fun x y P => match x, y with
  | .str s, .str t => s.length + t.length ≤ sizeLine ∧ P (.str (s ++ t))
  | _, _ => False
theorem lift_addS {K : PySem.W.Frag} : Lift2 K rAddS gAddS := fun S H x y d e P Q sm dx dy hg q => by
  unfold gAddS at hg
  split at hg
  · cases dx
    cases dy
    exact ⟨_, _, rfl, rfl, hg.1, q _ _ hg.2 (.str _)⟩
  · exact hg.elim
theorem ev_addS {X : Cx} {a b : Expr} {ta tb : TE} {wa wb : W1} {pos : Pos} (ha : EV X a ta wa) (hb : EV X b tb wb) : EV X (.BinOp a .Add b pos) (tOp rAddS ta tb) (wOp gAddS wa wb) := ev_bin op_add_str lift_addS ha hb
end Tr
set_option Elab.async false
set_option linter.all false
set_option maxRecDepth 100000
set_option maxHeartbeats 2000000
/-! TrT: sets of texts, of any size: len(set(xs)), sorted(set(xs)) -/
namespace Tr
open PySem PySem.Spec PyProof.Rows L2
variable [Tabbed]
/-! ### what a set of texts is -/
def keyS (e : Int × Value) : Str := match e.2 with
  | .str x _ => x
  | _ => Str.empty
def GoodS (w : World) (e : Int × Value) : Prop := ∃ x t, e.2 = Value.str x t ∧ e.1 = hashStr w x
/-- how the table stands: it rises and can be walked -/
def TabS (w : World) (es : Array (Int × Value)) (t : SetTable) : Prop := t.fits es.size = true ∧ Ris t.place.toList ∧ (w.params.followText "set-order" = true ∨ t.led = true)
def SetS (w : World) (h : Heap) (a : Addr) (L : List Str) : Prop := ∃ (o : Obj) (es : Array (Int × Value)) (ep : Nat) (t : SetTable), h.get? a = some o ∧ (o.ExactSet ∧ o.data = .set es ep t) ∧
  ((∀ e ∈ es.toList, GoodS w e) ∧ (es.toList.map keyS).Perm L ∧ L.Nodup) ∧ L.length < scanBound ∧ TabS w es t
section
variable {P : Program} {w : World} {h h' : Heap} {a : Addr} {L : List Str}
theorem SetS.keep (R : SetS w h a L) (k : ∀ o, h.get? a = some o → h'.get? a = some o) : SetS w h' a L := by
  obtain ⟨o, es, ep, t, ho, r⟩ := R
  exact ⟨o, es, ep, t, k o ho, r⟩
theorem good_elS {l : List (Int × Value)} (g : ∀ e ∈ l, GoodS w e) : ElemsOf (strKind P w) l := fun e he => by
  obtain ⟨x, t, h1, h2⟩ := g e he
  exact ⟨⟨x, by rw [h1]; exact strKind_is P w x t, h2⟩, by rw [h1] <;> rfl⟩
theorem good_isS {e : Int × Value} (g : GoodS w e) (x : Str) : (strKind P w).is x e.2 = true ↔ keyS e = x := by
  obtain ⟨y, t, h1, _⟩ := g
  unfold keyS
  rw [h1]
  constructor
  · intro h
    exact ((strKind P w).inj _ _ _ h (strKind_is P w y t)).symm
  · rintro rfl
    exact strKind_is P w y t
theorem good_inS {l : List (Int × Value)} (g : ∀ e ∈ l, GoodS w e) (x : Str) : x ∈ l.map keyS ↔ ∃ e ∈ l, (strKind P w).is x e.2 = true := by
  rw [List.mem_map]
  exact ⟨fun ⟨e, he, q⟩ => ⟨e, he, (good_isS (g e he) x).2 q⟩, fun ⟨e, he, q⟩ => ⟨e, he, (good_isS (g e he) x).1 q⟩⟩
end
section
variable {P : Program} {w : World} {A : Around} {E : Value → Shared → Prop} {s : Shared} {a : Addr} {L : List Str}
/-- the new table is laid down, and grows if it must -/
theorem layS {g : Bool → Sem Unit} (hg : ∀ (b : Bool) (s1 : Shared) (Q' : Unit → Shared → Prop), Q' () s1 → wpAny (model P w) A (g b) Q' E s1) {o : Obj} {es : Array (Int × Value)} {ep : Nat} {t : SetTable} (ho : s.heap.get? a = some o) (hx : o.ExactSet ∧ o.data = .set es ep t)
    {es1 : Array (Int × Value)} {t2 : SetTable} (g1 : (∀ e ∈ es1.toList, GoodS w e) ∧ (es1.toList.map keyS).Perm L ∧ L.Nodup) (room : L.length < scanBound) (T : TabS w es1 t2) {wasDummy : Bool} {R : Option Bool → Shared → Prop}
    (fin : ∀ h', Heap.SameBut a s.heap h' → SetS w h' a L → R (some true) { s with heap := h' }) :
    wpAny (model P w) A (do
        storeSet a es1 t2
        if (!wasDummy && t2.tooFull) = true then do
            g (relayAll t2 es1 (SetTable.grown es1.size)).2.2
            storeSet a (relayAll t2 es1 (SetTable.grown es1.size)).1 (relayAll t2 es1 (SetTable.grown es1.size)).2.1
            pure (some true)
          else pure (some true)) R E s := by
  have size1 : es1.size = L.length := by
    have := g1.2.1.length_eq
    rw [List.length_map, Array.length_toList] at this
    exact this
  have few : es1.size < scanBound := by rw [size1]; exact room
  refine wpAny_bind (wpAny_storeSet_of ho hx.2 ?_ (fits_of_scanBound few))
  have at1 := store_at (es' := es1) (t' := t2) ho hx.2
  have but1 := Heap.SameBut.update s.heap a (Obj.putSet es1 t2)
  split
  · have pm := relayAll_perm t2 es1 (SetTable.grown es1.size)
    have f3 := relayAll_fits t2 es1 (SetTable.grown es1.size)
    have r3 := relayAll_ris t2 es1 (SetTable.grown es1.size)
    have l3 := relayAll_led t2 es1 (SetTable.grown es1.size)
    generalize relayAll t2 es1 (SetTable.grown es1.size) = Z at pm f3 r3 l3 ⊢
    obtain ⟨es2, t3, gave⟩ := Z
    dsimp only at pm f3 r3 l3 ⊢
    have size2 : es2.size = es1.size := by rw [← Array.length_toList, pm.length_eq, Array.length_toList]
    refine wpAny_bind (hg _ _ _ ?_)
    refine wpAny_bind (wpAny_storeSet_of at1 rfl ?_ (fits_of_scanBound (by rw [size2]; exact few)))
    have at2 := store_at (es' := es2) (t' := t3) at1 rfl
    refine wpAny_pure (fin _ (but1.trans (Heap.SameBut.update _ a _)) ⟨_, es2, _, t3, at2, ⟨hx.1, rfl⟩, ⟨fun e he => g1.1 e (pm.mem_iff.mp he), (pm.map keyS).trans g1.2.1, g1.2.2⟩, room, f3, r3, T.2.2.imp id fun z => l3.trans z⟩)
  · exact wpAny_pure (fin _ but1 ⟨_, es1, _, t2, at1, ⟨hx.1, rfl⟩, g1, room, T⟩)
theorem addS {x : Str} {tk : Tok} {Q : Bool → Shared → Prop} (R : SetS w s.heap a L) (room : L.length + 1 < scanBound) (old : x ∈ L → Q false s)
    (new : x ∉ L → ∀ h', Heap.SameBut a s.heap h' → SetS w h' a (x :: L) → Q true { s with heap := h' }) :
    wpAny (model P w) A (setAddHashed a (.str x tk) (hashStr w x)) Q E s := by
  obtain ⟨o, es, ep, t, ho, hx, ⟨g, pm0, one⟩, hb, hf, hr, hl⟩ := R
  have key : (strKind P w).is x (.str x tk) = true := strKind_is P w x tk
  have scan : (Value.str x tk).scannable = true := rfl
  have els : ElemsOf (strKind P w) es.toList := good_elS g
  have size0 : es.size = L.length := by
    have := pm0.length_eq
    rw [List.length_map, Array.length_toList] at this
    exact this
  have inL : x ∈ L ↔ ∃ e ∈ es.toList, (strKind P w).is x e.2 = true := pm0.mem_iff.symm.trans (good_inS (P := P) g x)
  unfold setAddHashed setAddHashedIn
  refine wpAny_holding (wpAny_bind (wpAny_setState_of ho hx.2 hf ?_))
  dsimp only
  rw [byScan_of scan (by rw [size0]; exact hb) els]
  simp only [↓reduceIte]
  unfold setAddByScan
  refine wpAny_bind (wpAny_bind (wpAny_rule (wpAny_bind (wpAny_setScan_of (k := x) key ho hx.2 hf els ?_))))
  cases hfi : List.findIdx? (fun e => (strKind P w).is x e.2) es.toList with
  | some j =>
    dsimp only
    obtain ⟨hj, pj, _⟩ := List.findIdx?_eq_some_iff_getElem.mp hfi
    exact wpAny_pure (wpAny_pure (old (inL.mpr ⟨es.toList[j], List.getElem_mem hj, pj⟩)))
  | none =>
    dsimp only
    have nx : x ∉ L := fun z => by
      obtain ⟨e, he, q⟩ := inL.mp z
      have c := List.findIdx?_eq_none_iff.mp hfi e he
      rw [q] at c
      cases c
    have gave : ∀ (b : Bool) {s1 : Shared} {Q' : Unit → Shared → Prop}, Q' () s1 → wpAny (model P w) A (match b with | true => rule "set.scan.the-table-gave-way" | false => pure ()) Q' E s1 :=
      fun b s1 Q' q => by cases b <;> first | exact wpAny_pure q | exact wpAny_rule q
    have pm := layNew_perm t es (hashStr w x) (.str x tk)
    have f1 := layNew_fits t es (hashStr w x) (.str x tk)
    have r1 := layNew_ris t es (hashStr w x) (.str x tk) hr
    have l1 := layNew_led t es (hashStr w x) (.str x tk)
    show wpAny (model P w) A (match layNew t es (hashStr w x) (.str x tk) with | (es1, t1, wasDummy, gave) => _) _ E s
    generalize layNew t es (hashStr w x) (.str x tk) = Z at pm f1 r1 l1 ⊢
    obtain ⟨es1, t1, wasDummy, gv⟩ := Z
    dsimp only at pm f1 r1 l1 ⊢
    rw [Array.toList_push] at pm
    have pc : es1.toList.Perm ((hashStr w x, Value.str x tk) :: es.toList) := pm.trans (List.perm_append_singleton _ _)
    have pk : (es1.toList.map keyS).Perm (x :: L) := (pc.map keyS).trans (List.Perm.cons x pm0)
    have g1 : ∀ e ∈ es1.toList, GoodS w e := fun e he => by
      rcases List.mem_cons.mp (pc.mem_iff.mp he) with z | z
      · rw [z]; exact ⟨x, tk, rfl, rfl⟩
      · exact g e z
    have led : w.params.followText "set-order" = true ∨ t1.led = true := hl.imp id fun z => l1.trans z
    refine wpAny_bind (gave _ ?_)
    have all : (∀ e ∈ es1.toList, GoodS w e) ∧ (es1.toList.map keyS).Perm (x :: L) ∧ (x :: L).Nodup := ⟨g1, pk, List.nodup_cons.mpr ⟨nx, one⟩⟩
    split
    · refine wpAny_bind ?_
      rw [hashByValue_scannable 8 scan]
      refine wpAny_pure ?_
      refine layS ?_ ho hx all room ⟨?_, ?_, ?_⟩ ?_
      · intro b s1 Q' q; cases b <;> first | exact wpAny_pure q | exact wpAny_rule q
      · first | (split <;> first | exact f1 | exact SetTable.fits_plain_off f1) | exact f1
      · first | (split <;> exact r1) | exact r1
      · first | (split <;> exact led) | exact led
      · intro h' sb r; dsimp only; exact wpAny_pure (new nx h' sb r)
    · refine wpAny_bind (wpAny_pure ?_)
      simp only [↓reduceIte]
      refine layS ?_ ho hx all room ⟨f1, r1, led⟩ ?_
      · intro b s1 Q' q; cases b <;> first | exact wpAny_pure q | exact wpAny_rule q
      · intro h' sb r; dsimp only; exact wpAny_pure (new nx h' sb r)
end
end Tr
namespace Tr
open PySem PySem.Spec PyProof.Rows L2
variable [Tabbed]
/-- the set has what the first i items are -/
structure SoS (ks : List Str) (i : Nat) (L : List Str) : Prop where
  same : ∀ x, x ∈ L ↔ x ∈ ks.take i
  small : L.length ≤ i
theorem take_next {α : Type} {l : List α} {i : Nat} {y : α} (e : l[i]? = some y) : l.take (i + 1) = l.take i ++ [y] := by
  rw [List.take_succ, e] <;> rfl
theorem SoS.twice {ks L : List Str} {i : Nat} {y : Str} (g : SoS ks i L) (e : ks[i]? = some y) (m : y ∈ L) : SoS ks (i + 1) L where
  same := fun x => by
    rw [take_next e, List.mem_append, List.mem_singleton, ← g.same x]
    exact ⟨.inl, fun h => h.elim id fun z => z ▸ m⟩
  small := Nat.le_succ_of_le g.small
theorem SoS.next {ks L : List Str} {i : Nat} {y : Str} (g : SoS ks i L) (e : ks[i]? = some y) : SoS ks (i + 1) (y :: L) where
  same := fun x => by
    rw [take_next e, List.mem_append, List.mem_singleton, List.mem_cons, ← g.same x]
    exact Or.comm
  small := Nat.succ_le_succ g.small
section
variable {P : Program} {w : World} {A : Around} {E : Value → Shared → Prop} {s : Shared}
theorem loopS {I : Addr} {fp wr : List Addr} {G : Array GenState → Array GenState → Prop} {n : Nat} {Pv : Nat → Value → Prop} {St : Nat → Shared → Prop} {Rs : Result → Shared → Prop}
    (W : WalksS P w A.in1 I fp wr G n Pv St) (S : Addr) (nS : S ∉ fp) (ks : List Str) (hn : n = ks.length) (few : ks.length < scanBound) (hv : ∀ i v, Pv i v → ∃ x t, ks[i]? = some x ∧ v = .str x t) (m : Nat) :
    ∀ (i : Nat) (s : Shared), n = i + m → St i s → (∃ L, SetS w s.heap S L ∧ SoS ks i L) →
      (∀ s1 L, Moved (S :: wr) G s s1 → SetS w s1.heap S L → SoS ks n L → Rs (.ok (.ret .none)) s1) →
      codeAny (model P w) A (.builtin "set.update.loop" ⟨[.ref S, .ref I], []⟩) Rs s := by
  have nw : S ∉ wr := fun h => nS (W.sub S h)
  have wide : ∀ b ∈ wr, b ∈ S :: wr := fun b hb => .tail _ hb
  induction m with
  | zero =>
    rintro i s hi st ⟨L, R, g⟩ fin
    obtain rfl : n = i := hi
    refine codeAny_builtin F.entry_set_update_loop ?_
    rw [Around.under_plainId F.plain_set_update_loop _]
    exact wpAny_bind (W.done s _ _ st fun s1 mv => wpAny_pure (fin s1 L (mv.mono wide) (R.keep fun u e => mv.heap S u nw e) g))
  | succ m ih =>
    rintro i s hi st ⟨L, R, g⟩ fin
    refine codeAny_builtin F.entry_set_update_loop ?_
    rw [Around.under_plainId F.plain_set_update_loop _]
    refine wpAny_bind (W.item i s _ _ (by omega) st fun v s1 pv st1 mv => ?_)
    obtain ⟨x, tk, hq, rfl⟩ := hv i v pv
    have R1 : SetS w s1.heap S L := R.keep fun u e => mv.heap S u nw e
    have small := g.small
    have step : ∀ (h2 : Heap) (tk : Nat) (L2 : List Str), s1.toks ≤ tk → Heap.SameBut S s1.heap h2 → SetS w h2 S L2 → SoS ks (i + 1) L2 →
        codeAny (model P w) A (.builtin "set.update.loop" ⟨[.ref S, .ref I], []⟩) Rs { s1 with heap := h2, toks := tk } := fun h2 tk L2 htk sb R2 g2 => by
      have off : ∀ b, b ≠ S → ∀ u, s1.heap.get? b = some u → h2.get? b = some u := fun b hb u e => (sb.2 b hb).trans e
      refine ih (i + 1) _ (by omega) (W.frame _ s1 _ _ st1 htk fun b hb u e => off b (fun z => nS (z ▸ hb)) u e) ⟨L2, R2, g2⟩ fun s3 L3 mv3 R3 g3 => ?_
      exact fin s3 L3 (Moved.trans W.gtrans ((mv.mono wide).then_heap htk fun b u hb e => off b (fun z => hb (z ▸ .head _)) u e) mv3) R3 g3
    refine wpAny_bind (wpAny_holding ?_)
    unfold setAdd
    refine wpAny_holding (wpAny_bind ((strKind P w).pyHash (k := x) (strKind_is P w x tk) ?_))
    have lt : i < ks.length := by omega
    refine addS (s := { s1 with toks := s1.toks + 1 }) R1 (by omega) (fun hm => ?_) fun hm h1 sb R2 => ?_
    · exact wpAny_pure ⟨plainId_quiet F.plain_set_update_loop _, step s1.heap _ L (Nat.le_succ _) (Heap.SameBut.refl S s1.heap) R1 (g.twice hq hm)⟩
    · exact wpAny_pure ⟨plainId_quiet F.plain_set_update_loop _, step h1 _ (x :: L) (Nat.le_succ _) sb R2 (g.next hq)⟩
theorem setS_new {h : Heap} {b : Addr} (e : h.get? b = some (freshX w)) : SetS w h b [] := by
  refine ⟨_, #[], 0, _, e, ⟨⟨rfl, rfl, rfl⟩, rfl⟩, ⟨(fun e he => by simp at he), List.Perm.nil, List.nodup_nil⟩, (by decide), rfl, List.Pairwise.nil, ?_⟩
  by_cases c : w.params.followText "set-order" = true
  · exact .inl c
  · refine .inr ?_
    show (!w.params.followText "set-order") = true
    simp [c]
theorem texts_at {us : List Value} {ks : List Str} (h : StrsAre us ks) : ∀ {i : Nat} {v : Value}, us[i]? = some v → ∃ x t, ks[i]? = some x ∧ v = Value.str x t := by
  induction h with
  | nil =>
    intro i v e
    simp at e
  | cons x t _ ih =>
    intro i v e
    cases i with
    | zero =>
      simp at e
      exact ⟨x, t, rfl, e.symm⟩
    | succ i =>
      obtain ⟨y, t2, h1, h2⟩ := ih (by simpa using e)
      exact ⟨y, t2, by simpa using h1, h2⟩
set_option maxHeartbeats 6400000 in
theorem call_setS_list {l : Addr} {items : Array Value} (ks : List Str) {Q : Value → Shared → Prop} (hh : A.handled = none) (hl : s.heap.IsList l items) (hit : StrsAre items.toList ks) (few : ks.length < scanBound)
    (fin : ∀ (h1 : Heap) (tk : Nat) L, SetS w h1 s.heap.objs.size L → SoS ks ks.length L → (∀ c u, s.heap.get? c = some u → h1.get? c = some u) → Q (.ref s.heap.objs.size) { s with heap := h1, toks := tk }) :
    wpAny (model P w) A (call (.type "set") [.ref l]) Q E s := by
  have size : items.size = ks.length := by rw [← Array.length_toList, StrsAre.len_eq hit]
  obtain ⟨c0, tl0, m0⟩ := F.called_set.mro
  have m1 := F.called_set.made
  have m2 := F.called_set.sub
  have m3 := F.called_set.notType
  have m4 := F.called_set.canCreate
  have m5 := F.typeCall_set_1 (.ref l)
  refine wpAny_call (codeAny_of_tree ?_)
  refine wpAny_pure ⟨Code.quiet_builtin _ (by decide +kernel), codeAny_builtin F.entry_type_call ?_⟩
  rw [Around.under_plain (weight_type_call_type "set" [.ref l] []) rfl]
  repeat (any_goals (first | assumption | wp_step))

  refine codeAny_mono (code_set_led1 (.ref l) (E := E) (Q₁ := fun v s1 => v = .ref s.heap.objs.size ∧ s1 = { s with heap := s.heap.push (freshX w) }) ⟨rfl, rfl⟩) fun r s1 hr => ?_
  match r, hr with
  | .error e, hr => exact hr
  | .ok (.ret v), hr =>
    obtain ⟨rfl, rfl⟩ := hr
    have newS : (s.heap.push (freshX w)).get? s.heap.objs.size = some (freshX w) := Heap.get?_push_size _ rfl
    have tyS : Shared.TypeIs { s with heap := s.heap.push (freshX w) } (.ref s.heap.objs.size) "set" := ⟨_, newS, rfl⟩
    have i1 := F.called_set.init.lookup
    have i2 := F.called_set.init.bind (.ref s.heap.objs.size)
    repeat (any_goals (first | assumption | wp_step))

    refine codeAny_mono (codeAny_call_builtin (R := wants (fun v s2 => v = .none ∧ ∃ h1 tk L, s2 = { s with heap := h1, toks := tk } ∧ SetS w h1 s.heap.objs.size L ∧ SoS ks ks.length L ∧
        (∀ c u, s.heap.get? c = some u → h1.get? c = some u)) E) F.called_set.init.plain F.entry_set_init (check_set_init_1 tyS ?_)) fun r2 s2 hr2 => ?_
    · obtain ⟨⟨oc, od, oa, os⟩, hol, hc1, nl, hd1⟩ := hl
      dsimp only at hc1 hd1
      subst hc1 hd1
      have seqS : (s.heap.push (freshX w)).IsList l items := ⟨_, Heap.get?_push_of_some _ hol, rfl, nl, rfl⟩
      have hol2 := Heap.get?_push_of_some (freshX w) hol
      have b1 := F.sub_list_set
      have b2 := F.sub_list_frozenset
      have b3 : (Value.type "list" == Value.type "dict") = false := by decide
      unfold Builtin.«set.__init__» noKeywords Builtin.Frozenset.updateFrom
      generalize hPI : pyIter = PI
      wp_walk
      subst hPI

      refine wpAny_pyIter_list seqS ?_
      refine wpAny_bind (wpAny_runValue ?_)
      have z1 : (s.heap.push (freshX w)).objs.size = s.heap.objs.size + 1 := Heap.size_push ..
      have low : @LT.lt Nat _ l s.heap.objs.size := Heap.lt_size hol
      have ne1 : l ≠ (s.heap.push (freshX w)).objs.size := by
        rw [z1]
        exact Nat.ne_of_lt (Nat.lt_succ_of_lt low)
      have hh3 : A.in1.in1.in1.handled = none := by simp [hh]
      refine loopS ((Walks.list hh3 _ l ne1 items).toS) s.heap.objs.size (by
          rw [z1, List.mem_cons, List.mem_singleton]
          rintro (z | z)
          · exact absurd z (Nat.ne_of_lt (Nat.lt_succ_self _))
          · exact absurd z (Nat.ne_of_gt low)) ks size few (fun i v hv => ?_) items.size 0 _ (by omega) ⟨⟨_, Heap.get?_push_size _ rfl, rfl, rfl⟩, (seqS.push _)⟩ ⟨[], setS_new (Heap.get?_push_of_some _ newS), ⟨(fun x => by simp), Nat.le_refl _⟩⟩ fun s3 L mv R3 g3 => ?_
      · exact texts_at hit (by rw [Array.getElem?_toList]; exact hv)
      · obtain ⟨h3, g3', d3, tk3, os3⟩ := s3
        obtain rfl : g3' = s.gens := mv.gens
        obtain rfl : d3 = s.drawn := mv.drawn
        obtain rfl : os3 = s.os := mv.os
        refine wpAny_pure ?_
        rw [size] at g3
        refine wpAny_pure ⟨rfl, h3, tk3, L, rfl, R3, g3, fun c u e => ?_⟩
        have lt : @LT.lt Nat _ c s.heap.objs.size := Heap.lt_size e
        refine mv.heap c u ?_ (Heap.get?_push_of_some _ (Heap.get?_push_of_some _ e))
        rw [List.mem_cons, List.mem_singleton, z1]
        rintro (z | z)
        · exact absurd z (Nat.ne_of_lt lt)
        · exact absurd z (Nat.ne_of_lt (Nat.lt_succ_of_lt lt))
    · match r2, hr2 with
      | .error e, hr2 => exact hr2
      | .ok (.ret v), hr2 =>
        obtain ⟨rfl, h1, tk, L, rfl, R1, g1, up1⟩ := hr2
        repeat (any_goals (first | assumption | wp_step))
        exact fin _ _ _ R1 g1 up1
set_option maxHeartbeats 6400000 in
theorem call_setS_tuple {l : Addr} {items : Array Value} (ks : List Str) {Q : Value → Shared → Prop} (hh : A.handled = none) (hl : s.heap.IsTuple l items) (hit : StrsAre items.toList ks) (few : ks.length < scanBound)
    (fin : ∀ (h1 : Heap) (tk : Nat) L, SetS w h1 s.heap.objs.size L → SoS ks ks.length L → (∀ c u, s.heap.get? c = some u → h1.get? c = some u) → Q (.ref s.heap.objs.size) { s with heap := h1, toks := tk }) :
    wpAny (model P w) A (call (.type "set") [.ref l]) Q E s := by
  have size : items.size = ks.length := by rw [← Array.length_toList, StrsAre.len_eq hit]
  obtain ⟨c0, tl0, m0⟩ := F.called_set.mro
  have m1 := F.called_set.made
  have m2 := F.called_set.sub
  have m3 := F.called_set.notType
  have m4 := F.called_set.canCreate
  have m5 := F.typeCall_set_1 (.ref l)
  refine wpAny_call (codeAny_of_tree ?_)
  refine wpAny_pure ⟨Code.quiet_builtin _ (by decide +kernel), codeAny_builtin F.entry_type_call ?_⟩
  rw [Around.under_plain (weight_type_call_type "set" [.ref l] []) rfl]
  repeat (any_goals (first | assumption | wp_step))

  refine codeAny_mono (code_set_led1 (.ref l) (E := E) (Q₁ := fun v s1 => v = .ref s.heap.objs.size ∧ s1 = { s with heap := s.heap.push (freshX w) }) ⟨rfl, rfl⟩) fun r s1 hr => ?_
  match r, hr with
  | .error e, hr => exact hr
  | .ok (.ret v), hr =>
    obtain ⟨rfl, rfl⟩ := hr
    have newS : (s.heap.push (freshX w)).get? s.heap.objs.size = some (freshX w) := Heap.get?_push_size _ rfl
    have tyS : Shared.TypeIs { s with heap := s.heap.push (freshX w) } (.ref s.heap.objs.size) "set" := ⟨_, newS, rfl⟩
    have i1 := F.called_set.init.lookup
    have i2 := F.called_set.init.bind (.ref s.heap.objs.size)
    repeat (any_goals (first | assumption | wp_step))

    refine codeAny_mono (codeAny_call_builtin (R := wants (fun v s2 => v = .none ∧ ∃ h1 tk L, s2 = { s with heap := h1, toks := tk } ∧ SetS w h1 s.heap.objs.size L ∧ SoS ks ks.length L ∧
        (∀ c u, s.heap.get? c = some u → h1.get? c = some u)) E) F.called_set.init.plain F.entry_set_init (check_set_init_1 tyS ?_)) fun r2 s2 hr2 => ?_
    · obtain ⟨⟨oc, od, oa, os⟩, hol, hc1, nl, hd1⟩ := hl
      dsimp only at hc1 hd1
      subst hc1 hd1
      have seqS : (s.heap.push (freshX w)).IsTuple l items := ⟨_, Heap.get?_push_of_some _ hol, rfl, nl, rfl⟩
      have hol2 := Heap.get?_push_of_some (freshX w) hol
      have b1 := F.sub_tuple_set
      have b2 := F.sub_tuple_frozenset
      have b3 : (Value.type "tuple" == Value.type "dict") = false := by decide
      unfold Builtin.«set.__init__» noKeywords Builtin.Frozenset.updateFrom
      generalize hPI : pyIter = PI
      wp_walk
      subst hPI

      refine wpAny_pyIter_tuple seqS ?_
      refine wpAny_bind (wpAny_runValue ?_)
      have z1 : (s.heap.push (freshX w)).objs.size = s.heap.objs.size + 1 := Heap.size_push ..
      have low : @LT.lt Nat _ l s.heap.objs.size := Heap.lt_size hol
      have ne1 : l ≠ (s.heap.push (freshX w)).objs.size := by
        rw [z1]
        exact Nat.ne_of_lt (Nat.lt_succ_of_lt low)
      have hh3 : A.in1.in1.in1.handled = none := by simp [hh]
      refine loopS ((Walks.tuple hh3 _ l ne1 items).toS) s.heap.objs.size (by
          rw [z1, List.mem_cons, List.mem_singleton]
          rintro (z | z)
          · exact absurd z (Nat.ne_of_lt (Nat.lt_succ_self _))
          · exact absurd z (Nat.ne_of_gt low)) ks size few (fun i v hv => ?_) items.size 0 _ (by omega) ⟨⟨_, Heap.get?_push_size _ rfl, rfl, rfl⟩, (seqS.push _)⟩ ⟨[], setS_new (Heap.get?_push_of_some _ newS), ⟨(fun x => by simp), Nat.le_refl _⟩⟩ fun s3 L mv R3 g3 => ?_
      · exact texts_at hit (by rw [Array.getElem?_toList]; exact hv)
      · obtain ⟨h3, g3', d3, tk3, os3⟩ := s3
        obtain rfl : g3' = s.gens := mv.gens
        obtain rfl : d3 = s.drawn := mv.drawn
        obtain rfl : os3 = s.os := mv.os
        refine wpAny_pure ?_
        rw [size] at g3
        refine wpAny_pure ⟨rfl, h3, tk3, L, rfl, R3, g3, fun c u e => ?_⟩
        have lt : @LT.lt Nat _ c s.heap.objs.size := Heap.lt_size e
        refine mv.heap c u ?_ (Heap.get?_push_of_some _ (Heap.get?_push_of_some _ e))
        rw [List.mem_cons, List.mem_singleton, z1]
        rintro (z | z)
        · exact absurd z (Nat.ne_of_lt lt)
        · exact absurd z (Nat.ne_of_lt (Nat.lt_succ_of_lt lt))
    · match r2, hr2 with
      | .error e, hr2 => exact hr2
      | .ok (.ret v), hr2 =>
        obtain ⟨rfl, h1, tk, L, rfl, R1, g1, up1⟩ := hr2
        repeat (any_goals (first | assumption | wp_step))
        exact fin _ _ _ R1 g1 up1
/-- what a set's members are, sorted -/
theorem sorted_setS {a : Addr} {L : List Str} {Q : Value → Shared → Prop} (R : SetS w s.heap a L) (hh : A.handled = none) (hu : A.units + 9 < cLine)
    (fin : ∀ (s1 : Shared) (p : Addr) (out : Array Value) (c : Nat) (ys : List Str), (∀ b u, s.heap.get? b = some u → s1.heap.get? b = some u) → s1.gens = s.gens → s1.os = s.os → s.heap.objs.size ≤ p →
      s1.heap.get? p = some (seqObj "list" out c) → StrsAre out.toList ys → ys.Perm L → ys.Pairwise StrLt → Q (.ref p) s1) :
    wpAny (model P w) A (call (.builtin "sorted") [.ref a]) Q E s := by
  obtain ⟨o, es, ep, t, ho, hx, ⟨g, pm0, one⟩, hb, hf, hr, hl⟩ := R
  have size0 : es.size = L.length := by
    have := pm0.length_eq
    rw [List.length_map, Array.length_toList] at this
    exact this
  refine Calls.call_function_entry kind_sorted plain_sorted entry_sorted (args_sorted1 _) ?_
  unfold Builtin.«sorted»
  refine wpAny_bind (m := checkCount "sorted" 1 1 _) (wpAny_pure ?_)
  refine wpAny_bind (collect_set (A := A.in1) hh ⟨o, ho, hx.1.1, hx.2⟩ hf (by rw [size0]; exact hb) hr hl fun s1 vs up hz g1 o1 pm => ?_)
  obtain ⟨ent, p1, rfl⟩ := lift_perm pm es.toList rfl
  have gent : ∀ e ∈ ent, GoodS w e := fun e he => g e (p1.mem_iff.mp he)
  have len1 : (ent.map fun e => e.2).length = L.length := by rw [List.length_map, p1.length_eq, Array.length_toList, size0]
  have big : L.length < 4096 := hb
  have each : ∀ l : List (Int × Value), (∀ e ∈ l, GoodS w e) → PySem.W.EachIs (fun (v : Value) (x : Str) => ∃ t, v = .str x t) (l.map fun e => e.2) (l.map keyS) := fun l => by
    induction l with
    | nil => exact fun _ => .nil
    | cons e l ih =>
      intro hg
      obtain ⟨x, t, h1, _⟩ := hg e (.head _)
      refine .cons ⟨t, ?_⟩ (ih fun e he => hg e (.tail _ he))
      show e.2 = Value.str (keyS e) t
      unfold keyS
      rw [h1]
  have txts : ∀ {us : List Value} {ys : List Str}, PySem.W.EachIs (fun (v : Value) (x : Str) => ∃ t, v = .str x t) us ys → StrsAre us ys := fun h => by
    induction h with
    | nil => exact .nil
    | cons h1 _ ih =>
      obtain ⟨t, rfl⟩ := h1
      exact .cons _ t ih
  have at1 : (s1.heap.push (seqObj "list" (ent.map fun e => e.2).toArray 0)).get? s1.heap.objs.size = some (seqObj "list" (ent.map fun e => e.2).toArray 0) := Heap.get?_push_size _ rfl
  have reads : ∀ l : List (Int × Value), (∀ e ∈ l, GoodS w e) → PySem.W.EachIs (fun (v : Value) (x : Str) => ∃ as, Reads (s1.heap.push (seqObj "list" (ent.map fun e => e.2).toArray 0)) v (PyData.str x) as ∧ s1.heap.objs.size ∉ as) (l.map fun e => e.2) (l.map keyS) := fun l => by
    induction l with
    | nil => exact fun _ => .nil
    | cons e l ih =>
      intro hg
      obtain ⟨x, t, h1, _⟩ := hg e (.head _)
      refine .cons ⟨[], ?_, fun z => nomatch z⟩ (ih fun e he => hg e (.tail _ he))
      show Reads _ e.2 (PyData.str (keyS e)) []
      unfold keyS
      rw [h1]
      exact .str _ _
  refine wpAny_bind (wpAny_newList ?_ (by rw [len1, sizeLine_eq]; omega))
  refine wpAny_bind (wpAny_holding (PySem.W.list_sort_data (s := { s1 with heap := s1.heap.push (seqObj "list" (ent.map fun e => e.2).toArray 0) }) (R := fun (v : Value) (x : Str) => ∃ t, v = .str x t) (enc := fun x : Str => PyData.str x) (bs := ent.map keyS) at1 (each ent gent) (reads ent gent)
    (PySem.W.AllAlike.of fun x y => by simp [PySem.W.alike]) (PySem.W.Sortable.others fun x => ⟨(fun z => nomatch z), fun xs z => nomatch z⟩) (by rw [List.length_map, ← List.length_map (f := fun e => e.2), len1, sizeLine_eq]; omega) (fun x hx => by
      have h1 : A.in1.units ≤ A.units + 3 := by simp
      have h2 : (PyData.str x).depth = 0 := by simp [PyData.depth]
      omega) fun out h1 h2 => ?_))
  obtain ⟨c, hc⟩ := sortedHeap_at (vs := ent.map fun e => e.2) (out := out.toArray) at1
  have pmN : ((ent.map keyS).mergeSort (PySem.W.dataLe false fun x : Str => PyData.str x)).Perm L := (List.mergeSort_perm _ _).trans ((p1.map keyS).trans pm0)
  refine wpAny_pure ⟨_, rfl, fin _ s1.heap.objs.size out.toArray c _ (fun b u e => ?_) g1 o1 hz hc (txts h2) pmN ?_⟩
  · have e1 := up b u e
    have lt := Heap.lt_size e1
    refine (sortedHeap_old (Nat.ne_of_lt lt) ?_).trans (Heap.get?_push_of_some _ e1)
    rw [size_push']
    exact Nat.lt_succ_of_lt lt
  · have tl : PySem.W.TotalLe (PySem.W.dataLe false fun x : Str => PyData.str x) := PySem.W.sortLe_total _ _ _
    have pw := PySem.W.sort_pairwise tl (ent.map keyS)
    have one2 := pmN.nodup_iff.mpr one
    refine (pw.and one2).imp fun {m n} h => text_lt ?_ h.2
    have h1 : (!PySem.W.dataLt (PyData.str n) (PyData.str m)) = true := h.1
    rw [PySem.W.dataLt_str] at h1
    simpa using h1
end
end Tr
set_option Elab.async false
set_option linter.all false
set_option maxRecDepth 100000
set_option maxHeartbeats 2000000
/-! TrT2: the rules of len(set(texts)) and sorted(set(texts)) -/
namespace Tr
open PySem PySem.Spec PyProof.Rows L2
variable [Tabbed]
theorem SetS.one {w : World} {h : Heap} {a : Addr} {L : List Str} (R : SetS w h a L) : L.Nodup := by
  obtain ⟨_, _, _, _, _, _, ⟨_, _, one⟩, _⟩ := R
  exact one
def SetSO (w : World) (a : Addr) (L : List Str) : HO := .ext fun h => SetS w h a L
theorem setSO_ok {P : Program} {w : World} {H : Hp} {h : Heap} {a : Addr} {L : List Str} (R : SetS w h a L) : ObjOk P w H h a (SetSO w a L) := by
  have ⟨o, _, _, _, ho, _⟩ := R
  exact ⟨R, ⟨o, ho⟩, fun h1 h2 p k => SetS.keep p k⟩
section
variable {X : Cx}
def rSetS (K : PySem.W.Frag) (w : World) : List V → Hp → VK → Prop := fun xs H Q => ∃ (l : Addr) (ks : List Str), xs = [V.ref l] ∧ (SqL K H l (ks.map V.str) ∨ SqT K H l (ks.map V.str)) ∧ ks.length < scanBound ∧
  ∀ (a : Addr) (L : List Str), H a = none → L.Nodup → (∀ x, x ∈ L ↔ x ∈ ks) → Q (.ref a) (upd H a (SetSO w a L))
theorem call_rSetS (hc : X.calm = true) : CallR X (.type "set") (rSetS X.K X.w) := by
  rintro pins s σ H xs us Q I r ⟨l, ks, rfl, hl, few, q⟩
  rw [Vals.ref1 r]
  have hn : H s.heap.objs.size = none := I.hok.fresh (Nat.le_refl _)
  rcases hl with hl | hl
  · obtain ⟨its, rv, pl, hz⟩ := I.list hl
    refine call_setS_list (P := X.prog) (w := X.w) ks (I.ok.hd hc) pl.isList (by simpa using strsAre_of rv) few fun h1 tk L R g up => ?_
    exact ⟨.ref s.heap.objs.size, upd H s.heap.objs.size (SetSO X.w s.heap.objs.size L), I.laid (t' := tk) up (Nat.le_refl _) (setSO_ok R), rfl, q _ L hn R.one fun x => by rw [g.same, List.take_length]⟩
  · obtain ⟨its, rv, pl, hz⟩ := I.tuple hl
    refine call_setS_tuple (P := X.prog) (w := X.w) ks (I.ok.hd hc) pl (by simpa using strsAre_of rv) few fun h1 tk L R g up => ?_
    exact ⟨.ref s.heap.objs.size, upd H s.heap.objs.size (SetSO X.w s.heap.objs.size L), I.laid (t' := tk) up (Nat.le_refl _) (setSO_ok R), rfl, q _ L hn R.one fun x => by rw [g.same, List.take_length]⟩
def rSortS (w : World) : List V → Hp → VK → Prop := fun vs H Q => ∃ (a : Addr) (L : List Str), vs = [V.ref a] ∧ H a = some (SetSO w a L) ∧
  ∀ (ys : List Str) (p : Addr), ys.Perm L → ys.Pairwise StrLt → H p = none → Q (.ref p) (upd H p (.lst (ys.map V.str)))
theorem vals_texts : ∀ {us : List Value} {ys : List Str}, StrsAre us ys → Vals (ys.map V.str) us
  | _, _, .nil => .nil
  | _, _, .cons x t r => .cons ⟨t, rfl⟩ (vals_texts r)
theorem call_rSortS (hc : X.calm = true) (hu : X.A.units + 64 < cLine) : CallR X (.builtin "sorted") (rSortS X.w) := by
  rintro pins s σ H vs us Q I r ⟨a, L, rfl, ha, q⟩
  have R : SetS X.w s.heap a L := (I.hok a _ ha).1
  rw [Vals.ref1 r]
  refine sorted_setS (P := X.prog) R (I.ok.hd hc) (by omega) fun s1 p out c ys up g o hp hg hout pm pw => ?_
  have few : L.length < 4096 := by
    obtain ⟨_, _, _, _, _, _, _, few, _⟩ := R
    exact few
  have ln : (ys.map V.str).length ≤ sizeLine := by rw [List.length_map, pm.length_eq, sizeLine_eq]; omega
  have hn : H p = none := I.hok.fresh hp
  have J : Inv X pins σ (upd H p (.lst (ys.map V.str))) { s with heap := s1.heap, gens := s1.gens, drawn := s1.drawn, toks := s1.toks } :=
    I.call (ch := []) (Un.laid up hp hn) (I.hok.laid up hp ⟨ln, out.toList, c, vals_texts hout, hg⟩) (by rw [g]; exact I.bare) (fun _ z => nomatch z)
  have e : s1 = { s with heap := s1.heap, gens := s1.gens, drawn := s1.drawn, toks := s1.toks } := by
    obtain ⟨b1, b2, b3, b4, b5⟩ := s1
    obtain ⟨c1, c2, c3, c4, c5⟩ := s
    dsimp only at o
    subst o
    rfl
  rw [e]
  exact ⟨.ref p, _, J, rfl, q ys p pm pw hn⟩
def rLenS (w : World) : List V → Hp → VK → Prop := fun vs H Q => ∃ (a : Addr) (L : List Str), vs = [V.ref a] ∧ H a = some (SetSO w a L) ∧ Q (.int (L.length : Nat)) H
theorem call_rLenS : CallR X (.builtin "len") (rLenS X.w) := by
  rintro pins s σ H vs us Q I r ⟨a, L, rfl, ha, q⟩
  obtain ⟨o, es, ep, t, ho, hx, ⟨g, pm0, one⟩, few, hf, _⟩ : SetS X.w s.heap a L := (I.hok a _ ha).1
  have few' : L.length < 4096 := few
  have size0 : es.size = L.length := by
    have := pm0.length_eq
    rw [List.length_map, Array.length_toList] at this
    exact this
  rw [Vals.ref1 r]
  rw [← size0] at q
  exact call_len_set ho hx.1 hx.2 hf (by omega) ⟨.int es.size, H, I.tok _, ⟨_, rfl⟩, q⟩
/-! ### over trees -/
theorem dqs_of_texts {K : PySem.W.Frag} {S : Hp} : ∀ (ks : List Str) {vs : List V}, DqAll K S vs (ks.map PyData.str) → vs = ks.map V.str
  | [], vs, h => by
    have h1 : DqAll K S vs [] := h
    cases h1
    rfl
  | k :: ks, vs, h => by
    have h1 : DqAll K S vs (PyData.str k :: ks.map PyData.str) := h
    cases h1 with
    | cons k1 k2 =>
      cases k1
      rw [dqs_of_texts ks k2] <;> rfl
theorem dq_texts {K : PySem.W.Frag} {S : Hp} : ∀ ks : List Str, DqAll K S (ks.map V.str) (ks.map PyData.str)
  | [] => .nil
  | k :: ks => .cons (.str k) (dq_texts ks)
def wLenSet (we : W1) : W1 := fun ρ P => we ρ fun d ρ1 => ∃ (b : Bool) (ks : List Str), d = seqOf b (ks.map PyData.str) ∧ ks.length < 4096 ∧ ∀ L : List Str, L.Nodup → (∀ x, x ∈ L ↔ x ∈ ks) → P (.int (L.length : Nat)) ρ1
def wSortedS (we : W1) : WA := fun ρ P => we ρ fun d ρ1 => ∃ (b : Bool) (ks : List Str), d = seqOf b (ks.map PyData.str) ∧ ks.length < 4096 ∧ ∀ ys : List Str, ys.Pairwise StrLt → (∀ x, x ∈ ys ↔ x ∈ ks) → P (ys.map PyData.str) ρ1
theorem seq_texts {K : PySem.W.Frag} {S H : Hp} {b : Bool} {ks : List Str} {v : V} (sm : Same S H) (h : Dq K S v (seqOf b (ks.map PyData.str))) : ∃ l, v = .ref l ∧ (SqL K H l (ks.map V.str) ∨ SqT K H l (ks.map V.str)) := by
  cases b with
  | false =>
    cases h with
    | lst sq hd => exact ⟨_, rfl, .inl (by rw [← dqs_of_texts ks hd]; exact same_sqL sm sq)⟩
  | true =>
    cases h with
    | tup sq hd => exact ⟨_, rfl, .inr (by rw [← dqs_of_texts ks hd]; exact same_sqT sm sq)⟩
variable {e : Expr} {te : TE} {we : W1} {p1 p2 q1 q2 : Pos}
theorem ev_lenSet (hc : X.calm = true) (hml : X.mg "len" = none) (hmt : X.mg "set" = none) (ha : EV X e te we) (hgl : Gl X "len" := by rfl) (hgt : Gl X "set" := by rfl)
    (he : starEach [e] X.env = (false, eval e X.env) :: starEach [] X.env := by rfl) (hpl : (backTo q2 (starEach [] X.env)).any (·.1) = false := by rfl)
    (he2 : starEach [(.Call (.Name "set" p2) [e] [] q2)] X.env = (false, eval (.Call (.Name "set" p2) [e] [] q2) X.env) :: starEach [] X.env := by rfl) (hpl2 : (backTo q1 (starEach [] X.env)).any (·.1) = false := by rfl) :
    EV X (.Call (.Name "len" p1) [.Call (.Name "set" p2) [e] [] q2] [] q1) (tCB (rLenS X.w) (tCons (tCB (rSetS X.K X.w) (tCons te tNil)) tNil)) (wLenSet we) :=
  ⟨pe_callB call_rLenS hgl hml PySem.boot_len (pa_cons (pe_callTy (call_rSetS hc) hgt hmt (by decide +kernel) (pa_cons ha.pe pa_nil he) (by decide) (by decide) he hpl) pa_nil he2) (by decide) (by decide) he2 hpl2, fun F ρ P σ S H Q hw R q =>
    ha.sd F ρ _ σ S H _ hw R fun d ρ1 v S1 H1 h1 R1 s1 d1 => by
      obtain ⟨b, ks, rfl, few, g⟩ := h1
      obtain ⟨l, rfl, sq⟩ := seq_texts R1.sub d1
      refine ⟨l, ks, rfl, sq, few, fun a L na one same => ?_⟩
      exact ⟨a, L, rfl, upd_same, q _ ρ1 _ S1 _ (g L one same) (R1.lay na _) s1 (.int _)⟩⟩
theorem en_sortedS (hu : X.A.units + 100 < cLine) (hc : X.calm = true) (hms : X.mg "sorted" = none) (hmt : X.mg "set" = none) (ha : EV X e te we) (hgs : Gl X "sorted" := by rfl) (hgt : Gl X "set" := by rfl)
    (he : starEach [e] X.env = (false, eval e X.env) :: starEach [] X.env := by rfl) (hpl : (backTo q2 (starEach [] X.env)).any (·.1) = false := by rfl)
    (he2 : starEach [(.Call (.Name "set" p2) [e] [] q2)] X.env = (false, eval (.Call (.Name "set" p2) [e] [] q2) X.env) :: starEach [] X.env := by rfl) (hpl2 : (backTo q1 (starEach [] X.env)).any (·.1) = false := by rfl) :
    EN X (.Call (.Name "sorted" p1) [.Call (.Name "set" p2) [e] [] q2] [] q1) (tCB (rSortS X.w) (tCons (tCB (rSetS X.K X.w) (tCons te tNil)) tNil)) (wSortedS we) :=
  ⟨pe_callB (call_rSortS hc (by omega)) hgs hms (by decide +kernel) (pa_cons (pe_callTy (call_rSetS hc) hgt hmt (by decide +kernel) (pa_cons ha.pe pa_nil he) (by decide) (by decide) he hpl) pa_nil he2) (by decide) (by decide) he2 hpl2, fun F ρ P σ S H Q hw R q =>
    ha.sd F ρ _ σ S H _ hw R fun d ρ1 v S1 H1 h1 R1 s1 d1 => by
      obtain ⟨b, ks, rfl, few, g⟩ := h1
      obtain ⟨l, rfl, sq⟩ := seq_texts R1.sub d1
      refine ⟨l, ks, rfl, sq, few, fun a L na one same => ?_⟩
      refine ⟨a, L, rfl, upd_same, fun ys p pm pw hn => ?_⟩
      have np : H1 p = none := by
        cases z : H1 p with
        | none => rfl
        | some o =>
          rw [same_new (o := SetSO X.w a L) na p o z] at hn
          cases hn
      have R2 := R1.lay na (SetSO X.w a L)
      exact q _ ρ1 p _ S1 _ (g ys pw fun x => pm.mem_iff.trans (same x)) (R2.lay hn _) s1 (R2.bare hn) (dq_texts ys)⟩
end
/-! ### how many different ones -/
theorem nodup_len {α : Type} [DecidableEq α] : ∀ (l D : List α), l.Nodup → (∀ x ∈ l, x ∈ D) → l.length ≤ D.length
  | [], _, _, _ => Nat.zero_le _
  | x :: l, D, hn, hs => by
    obtain ⟨h1, h2⟩ := List.nodup_cons.mp hn
    have hx : x ∈ D := hs x (.head _)
    have ih := nodup_len l (D.erase x) h2 fun y hy => by
      have ne : y ≠ x := fun e => h1 (by rw [← e]; exact hy)
      exact (List.mem_erase_of_ne ne).2 (hs y (.tail _ hy))
    have e := List.length_erase_of_mem hx
    have hp : 0 < D.length := List.length_pos_of_mem hx
    rw [List.length_cons]
    omega
theorem all_differ_iff {α : Type} [DecidableEq α] {L : List α} (one : L.Nodup) : ∀ {ks : List α}, (∀ x, x ∈ L ↔ x ∈ ks) → (L.length = ks.length ↔ ks.Nodup) := fun {ks} same => by
  constructor
  · intro h
    refine Classical.byContradiction fun hd => ?_
    have cut : ∀ ks : List α, ¬ ks.Nodup → ∃ ks' : List α, ks'.length < ks.length ∧ ∀ x ∈ ks, x ∈ ks' := fun ks => by
      induction ks with
      | nil => exact fun h => absurd List.nodup_nil h
      | cons k ks ih =>
        intro h
        by_cases hk : k ∈ ks
        · refine ⟨ks, by rw [List.length_cons]; omega, fun x hx => ?_⟩
          rcases List.mem_cons.mp hx with rfl | hx
          · exact hk
          · exact hx
        · obtain ⟨ks', h1, h2⟩ := ih fun z => h (List.nodup_cons.mpr ⟨hk, z⟩)
          refine ⟨k :: ks', by rw [List.length_cons, List.length_cons]; omega, fun x hx => ?_⟩
          rcases List.mem_cons.mp hx with rfl | hx
          · exact .head _
          · exact .tail _ (h2 x hx)
    obtain ⟨ks', h1, h2⟩ := cut ks hd
    have := nodup_len L ks' one fun x hx => h2 x ((same x).mp hx)
    omega
  · intro h
    have h1 := nodup_len L ks one fun x hx => (same x).mp hx
    have h2 := nodup_len ks L h fun x hx => (same x).mpr hx
    omega
end Tr
set_option Elab.async false
set_option linter.all false
set_option maxRecDepth 100000
set_option maxHeartbeats 2000000
/-! TrL: sorted(xs, key=lambda x: (x != y, x)), y a name of the def around it -/
namespace Tr
open PySem PySem.Spec PyProof.Rows L2
variable [Tabbed]
theorem lam_run {prog : Program} {w : World} {A : Around} {s : Shared} {f c' cw : Addr} {qual x y xS yS : Str} {tx ty : PySem.Tok} {params : Arguments} {scope : Scope} {cl : List (Str × Addr)} {pm ctv : Value} {p1 p2 p3 p4 p5 : Pos} {k1 : Nat} {R : Result → Shared → Prop}
    (hroom : A.depth < recursionLimit) (hf : s.heap.get? f = some (PySem.W.kla_obj "<lambda>" qual params (.Tuple [.Compare (.Name x p1) [.NotEq] [.Name y p2] p3, .Name x p4] k1 p5) scope cl pm c' ctv))
    (hc : s.heap.CodeRec (.ref c') qual) (hlim : s.heap.NoLimit) (hcl : cl.lookup y = some cw) (hcw : s.heap.IsCell cw (some (.str yS ty)))
    (hbind : bindArgs (PySem.W.kla_fn "<lambda>" qual params (.Tuple [.Compare (.Name x p1) [.NotEq] [.Name y p2] p3, .Name x p4] k1 p5) scope cl pm (.ref c') ctv) ⟨[.str xS tx], []⟩ = pure [(x, .str xS tx)])
    (hkind : scope.kind = .function) (hco : scope.isCoroutine = false) (hge : scope.isGenerator = false) (hnc : ∀ z ∈ scope.names, z.2 ≠ .cell) (hx : scope.names.lookup x = some .local) (hy : scope.names.lookup y = some .free)
    (hdx : (x == ("__debug__" : Str)) = false) (hdy : (y == ("__debug__" : Str)) = false) (hcy : (y == ("__classdict__" : Str)) = false)
    (hq : ∀ h' tk p, (∀ b o, s.heap.get? b = some o → h'.get? b = some o) → Reads h' (.ref p) (.tuple [.bool (xS != yS), .str xS]) [] → R (.ok (.ret (.ref p))) { s with heap := h', toks := tk }) :
    codeAny (model prog w) A (.call (.ref f) ⟨[.str xS tx], []⟩) R s := by
  refine PySem.W.kla_callFunE hroom hf rfl hco hge rfl hc ?_
  rw [hbind]
  refine wpAny_pure ?_
  refine wpAny_newFunctionEnv hnc (fun z hz => ?_) (fun h' ns same => ⟨?_, PySem.W.kla_codeExpr ?_⟩) hkind
  · rw [List.mem_singleton.mp hz]
    exact hx
  · exact hlim.keeps fun b o e => (same.2 b (Nat.ne_of_lt (Heap.lt_size e))).trans (Heap.get?_push_of_some _ e)
  · have old : ∀ b o, s.heap.get? b = some o → h'.get? b = some o := fun b o e => (same.2 b (Nat.ne_of_lt (Heap.lt_size e))).trans (Heap.get?_push_of_some _ e)
    obtain ⟨ocw, hcw1, hcw2⟩ := hcw
    generalize hEnv : newEnv _ _ _ _ _ _ _ _ _ = env
    have h1 : env.scope = scope := by rw [← hEnv] <;> rfl
    have h2 : env.locals = s.heap.objs.size := by rw [← hEnv] <;> rfl
    have h3 : env.cells = cl := by rw [← hEnv] <;> rfl
    have kx : env.kindOf x = some .local := by
      show env.scope.names.lookup x = _
      rw [h1]
      exact hx
    have ky : env.kindOf y = some .free := by
      show env.scope.names.lookup y = _
      rw [h1]
      exact hy
    have hk : env.scope.kind = .function := by rw [h1]; exact hkind
    have ldx : ∀ {A : Around} {E : Value → Shared → Prop} {Q : Value → Shared → Prop} {p : Pos} {tk : Nat}, Q (.str xS tx) { s with heap := h', toks := tk } → wpAny (model prog w) A (eval (.Name x p) env) Q E { s with heap := h', toks := tk } := fun {A E Q p tk} q =>
      wpAny_Name (wpAny_loadName_local hk kx (by rw [h2]; exact ns) (by show List.lookup x [(x, Value.str xS tx)] = _; simp [List.lookup]) q) hdx
    have ldy : ∀ {A : Around} {E : Value → Shared → Prop} {Q : Value → Shared → Prop} {p : Pos} {tk : Nat}, Q (.str yS ty) { s with heap := h', toks := tk } → wpAny (model prog w) A (eval (.Name y p) env) Q E { s with heap := h', toks := tk } := fun {A E Q p tk} q =>
      wpAny_Name (wpAny_loadName_free hk ky (by rw [h3]; exact hcl) ⟨ocw, old _ _ hcw1, hcw2⟩ q hcy) hdy
    refine wpAny_Tuple (spliced_more (wpAny_Compare1 (ldx (ldy (PyProof.Rows.ne_str (spliced_more (ldx (spliced_none ⟨by show 2 ≤ sizeLine; rw [sizeLine_eq]; omega, ?_⟩)) ?_)))) ?_) ?_)
    · refine hq _ _ _ (fun b o e => Heap.get?_push_of_some _ (old b o e)) (.tuple (Heap.get?_push_at rfl rfl) rfl rfl ?_)
      exact .cons (.bool _) (.cons (.str _ _) .nil)
    · rfl
    · rfl
    · rfl

/-- the lambda is made: the table may have grown, all else stands -/
theorem lam_made {X : Cx} {pins : List (Addr × Obj)} {σ : L2.St} {H : Hp} {s : Shared} {c P : Addr} {nm : Nat → Nat → Str} {params : Arguments} {body : Expr} {scope : Scope} {lpos : Pos} {E Q : Value → Shared → Prop}
    (I : L2.Inv X pins σ H s) (TB : LamX.TabB X.base X.mg c P) (hcode : X.env.code = .ref c) (hT : (P, nm) ∈ Tabbed.T) (hn : nm lpos.line lpos.col = X.env.qual ++ "<lambda>") (hu : ∀ p ∈ Tabbed.T, p.1 = P → p.2 = nm) (tk : CodeTabs H)
    (hdef : defaultsOf params X.env = ([], [])) (hfree : ∀ y ∈ scope.names, y.2 = .free → ∃ c, X.env.cells.lookup y.1 = some c)
    (q : ∀ (f c' : Addr) (pm ctv : Value) (H1 : Hp) (s' : Shared), L2.Inv X pins σ H1 s' → Left H H1 → s'.heap.get? f = some (PySem.W.kla_obj "<lambda>" (X.env.qual ++ "<lambda>") params body scope (cloFrom X.env.cells scope.names []) pm c' ctv) →
      s'.heap.CodeRec (.ref c') (X.env.qual ++ "<lambda>") → Q (.ref f) s') :
    wpAny (model X.prog X.w) X.A (eval (.Lambda params body scope lpos) X.env) Q E s := by
  obtain ⟨ps, hP, tri, all⟩ := tk _ hT
  have hPo : s.heap.get? P = some (PySem.W.tabObj ps) := I.hok P _ hP
  have bk := I.bk
  have CH : PySem.W.CodeHd s.heap c P := by
    obtain ⟨o, vs, file, tf, fl, tg, inF, text, tt, e, r⟩ := TB.code
    exact ⟨o, vs, file, tf, fl, tg, inF, text, tt, bk _ _ e, r⟩
  have ns := I.ok.mod.glob.keeps bk
  have hcl := closure_ok (scope := scope) (env := X.env) hfree
  refine PySem.W.kla_eval hdef ?_
  cases hc : codeAmong lpos ps.toList with
  | none =>
    refine PySem.W.kla_makeFunction hcl I.ok.glob ns hcode CH hPo tri hc TB.gP (TB.bm.keeps bk) fun c' ctv h' tk' ext le lt cr hP' => ?_
    have hc'n : H c' = none := I.hok.fresh le
    have hcP : c' ≠ P := fun z => by
      rw [z, hP] at hc'n
      cases hc'n
    obtain ⟨c2, oc, vs, t, e1, e2, e3, e4⟩ := cr
    cases e1
    have I1 := LamX.inv_table (more := #[rawInt ↑lpos.line, rawInt ↑lpos.col, Value.ref c']) (t' := tk') I hP ext hP' le ⟨oc, vs, t, e2, e3, e4⟩
    have I2 := I1.kept (h' := h'.push (PySem.W.kla_obj "<lambda>" (X.env.qual ++ "<lambda>") params body scope (cloFrom X.env.cells scope.names []) ((X.mg "__name__").getD .none) c' ctv)) (t' := tk') fun b o e => Heap.get?_push_of_some _ e
    refine q _ c' _ ctv _ _ I2 ⟨fun b o nt e => ?_, fun p hp => ?_⟩ (Heap.get?_push_at rfl rfl) ⟨c', oc, vs, t, rfl, Heap.get?_push_of_some _ e2, e3, e4⟩
    · have hb : b ≠ P := fun z => nt ⟨_, hT, z.symm⟩
      rw [upd_ne (ne_of_none e hc'n), upd_ne hb]
      exact e
    · have kc : ∀ {d : Addr} {qn : Str}, H d = some (LamX.CodeO d qn) → (upd (upd H P (.tbl (ps ++ #[rawInt ↑lpos.line, rawInt ↑lpos.col, Value.ref c']))) c' (LamX.CodeO c' (X.env.qual ++ "<lambda>"))) d = some (LamX.CodeO d qn) := fun {d qn} e => by
        have hd : d ≠ P := fun z => by
          rw [z, hP] at e
          cases e
        rw [upd_ne (ne_of_none e hc'n), upd_ne hd]
        exact e
      by_cases hpP : p.1 = P
      · have hpn := hu p hp hpP
        refine ⟨ps ++ #[rawInt ↑lpos.line, rawInt ↑lpos.col, Value.ref c'], ?_, ?_, fun pos cv ha => ?_⟩
        · rw [hpP, upd_ne (Ne.symm hcP), upd_same]
        · rw [Array.toList_append]
          exact TriplesOk_snoc _ _ _ _ tri
        · rw [Array.toList_append] at ha
          rcases NdefX.among_app2 ps.toList tri ha with ha | ⟨rfl, g1, g2⟩
          · obtain ⟨d, rfl, hd⟩ := all pos cv ha
            rw [hpn]
            exact ⟨d, rfl, kc hd⟩
          · refine ⟨c', rfl, ?_⟩
            rw [hpn, ← g1, ← g2, hn]
            exact upd_same
      · obtain ⟨ps2, k1, k2, k3⟩ := tk p hp
        refine ⟨ps2, ?_, k2, fun pos cv ha => ?_⟩
        · rw [upd_ne (ne_of_none k1 hc'n), upd_ne hpP]
          exact k1
        · obtain ⟨d, rfl, hd⟩ := k3 pos cv ha
          exact ⟨d, rfl, kc hd⟩
  | some cv =>
    obtain ⟨c', rfl, hc'⟩ := all lpos cv hc
    obtain ⟨oc, vs, t, e2, e3, e4⟩ := (I.hok c' _ hc').1
    replace e4 : vs[1]? = some (.str (nm lpos.line lpos.col) t) := e4
    rw [hn] at e4
    refine PySem.W.kla_makeFunctionHit hcl I.ok.glob ns hcode CH hPo tri hc (TB.bm.keeps bk) fun ctv h' tk' keep le => ?_
    have I2 := I.kept (h' := h'.push (PySem.W.kla_obj "<lambda>" (X.env.qual ++ "<lambda>") params body scope (cloFrom X.env.cells scope.names []) ((X.mg "__name__").getD .none) c' ctv)) (t' := tk') fun b o e => Heap.get?_push_of_some _ (keep b o e)
    exact q _ c' _ ctv H _ I2 ⟨fun b o nt e => e, tk⟩ (Heap.get?_push_at rfl rfl) ⟨c', oc, vs, t, rfl, Heap.get?_push_of_some _ (keep _ _ e2), e3, e4⟩

/-- the order of the lambda's keys -/
def lamKey (yS x : Str) : PyData := .tuple [.bool (x != yS), .str x]
def srtBy (yS : Str) (xs : List Str) : List Str := xs.mergeSort (PySem.W.dataLe false (lamKey yS))
def tSortLam (K : PySem.W.Frag) (i : Nat) (t : TA) : TE := fun σ H Q => t σ H fun vs H1 => ∃ (l : Addr) (xs : List Str) (yS : Str), vs = [.ref l] ∧ SqL K H1 l (xs.map V.str) ∧ xs.length < 4000 ∧ σ[i]? = some (some (.str yS)) ∧ CodeTabs H1 ∧
  ∀ H2 p, Left H1 H2 → H2 p = none → Q (.ref p) (upd H2 p (.lst ((srtBy yS xs).map V.str)))
theorem each_of_strs : ∀ {xs : List Str} {us : List Value}, Vals (xs.map V.str) us → PySem.W.EachIs (fun v x => ∃ t, v = Value.str x t) us xs
  | [], _, h => by cases h; exact .nil
  | x :: xs, _, h => by
    cases h with
    | cons h1 h2 => exact .cons h1 (each_of_strs h2)
theorem Left.sqL {K : PySem.W.Frag} {H H' : Hp} {a : Addr} {xs : List V} (lf : Left H H') (tk : CodeTabs H) (h : SqL K H a xs) : SqL K H' a xs := by
  have nt : ∀ {o : HO}, H a = some o → (∀ ps, o ≠ .tbl ps) → ¬ Tb a := fun {o} e no hb => by
    obtain ⟨ps, z⟩ := tk.tbl hb
    rw [e] at z
    exact no ps (Option.some.inj z)
  rcases h with (h | ⟨o, h⟩) | h
  · exact .inl (.inl (lf.at_ a _ (nt h fun ps z => by cases z) h))
  · exact .inl (.inr ⟨o, lf.at_ a _ (nt h fun ps z => by cases z) h⟩)
  · exact .inr h
theorem strs_of_each {xs : List Str} {us : List Value} (h : PySem.W.EachIs (fun v x => ∃ t, v = Value.str x t) us xs) : Vals (xs.map V.str) us := by
  induction h with
  | nil => exact .nil
  | cons h _ ih => exact .cons h ih
theorem pe_sortlam {X : Cx} {i : Nat} {e : Expr} {t : TA} {c P : Addr} {nm : Nat → Nat → Str} {params : Arguments} {scope : Scope} {x y : Str} {p0 p1 p2 p3 p4 p5 lpos kp pos : Pos} {k1 : Nat}
    (hu : X.A.units + 100 < cLine) (hd : X.A.depth < recursionLimit) (hms : X.mg "sorted" = none) (TB : LamX.TabB X.base X.mg c P) (hcode : X.env.code = .ref c) (hT : (P, nm) ∈ Tabbed.T) (hn : nm lpos.line lpos.col = X.env.qual ++ "<lambda>") (hun : ∀ p ∈ Tabbed.T, p.1 = P → p.2 = nm)
    (ha : PA X [e] t) (hi : X.N[i]? = some y) (hy : X.env.scope.names.lookup y = some .cell) (hvy : Vis X.env.scope y)
    (hdef : defaultsOf params X.env = ([], [])) (hfree : ∀ z ∈ scope.names, z.2 = .free → z.1 = y) (hyf : (y, NameKind.free) ∈ scope.names)
    (hbind : ∀ (q : Str) (cl : List (Str × Addr)) (pm cdv ctv v : Value), bindArgs (PySem.W.kla_fn "<lambda>" q params (.Tuple [.Compare (.Name x p1) [.NotEq] [.Name y p2] p3, .Name x p4] k1 p5) scope cl pm cdv ctv) ⟨[v], []⟩ = pure [(x, v)])
    (hkind : scope.kind = .function) (hco : scope.isCoroutine = false) (hge : scope.isGenerator = false) (hnc : ∀ z ∈ scope.names, z.2 ≠ .cell) (hxl : scope.names.lookup x = some .local) (hyl : scope.names.lookup y = some .free)
    (hdx : (x == ("__debug__" : Str)) = false) (hdy : (y == ("__debug__" : Str)) = false) (hcy : (y == ("__classdict__" : Str)) = false)
    (hg : Gl X "sorted" := by rfl) (he : backTo pos (starEach [e] X.env) = (false, eval e X.env) :: backTo pos (starEach [] X.env) := by rfl) (hpl : ((backTo pos (starEach [e] X.env)).any fun x => x.1) = false := by rfl) :
    PE X (.Call (.Name "sorted" p0) [e] [⟨some "key", .Lambda params (.Tuple [.Compare (.Name x p1) [.NotEq] [.Name y p2] p3, .Name x p4] k1 p5) scope lpos, kp⟩] pos) (tSortLam X.K i t) := by
  refine ⟨fun pins s σ H Q I h => wpAny_Call_Name_kw (ld_blt (u := .builtin "sorted") I hg hms (by decide +kernel) ?_)⟩
  refine callWith_kw (thn (ha.run pos pins s σ H _ I h) ?_) he hpl rfl rfl
  rintro us s1 ⟨vs, H1, I1, rv, l, xs, yS, rfl, sq, hlen, hy1, tk, q⟩
  refine kwAll_cons ?_
  have hfr : ∀ z ∈ scope.names, z.2 = .free → ∃ c, X.env.cells.lookup z.1 = some c := fun z hz hk => by
    rw [hfree z hz hk]
    exact I.ok.has y (.inl hy)
  refine lam_made I1 TB hcode hT hn hun tk hdef hfr fun f c' pm ctv H2 s2 I2 lf hf hcr => ?_
  refine kwAll_nil ?_
  have sq2 : SqL X.K H2 l (xs.map V.str) := lf.sqL tk sq
  obtain ⟨its, hv, hpl2, hz⟩ := I2.list sq2
  obtain ⟨cw, hcw⟩ := I2.ok.has y (.inl hy)
  obtain ⟨m, hm, look⟩ := I2.loc
  obtain ⟨u, hru, hlk⟩ := look i y _ hi hy1 hvy
  obtain ⟨ty, rfl⟩ : ∃ ty, u = Value.str yS ty := hru
  have hcell : s2.heap.IsCell cw (some (.str yS ty)) := by
    rcases hlk with ⟨k, _⟩ | ⟨_, c2, e1, e2⟩
    · have k' : X.env.scope.names.lookup y = some .local := k
      rw [hy] at k'
      cases k'
    · rw [hcw] at e1
      cases e1
      exact e2
  have hclo := NdefX.clo_has hfr hyf hcw
  cases rv with
  | cons rv1 rv2 =>
    cases rv2
    have rv1' : _ = Value.ref l := rv1
    subst rv1'
    show wpAny _ _ (call (.builtin "sorted") [.ref l] [("key", .ref f)]) _ _ _
    refine PySem.W.sorted_key_data (b := false) (lamKey yS) (vs := its) (bs := xs) (R := fun v x => ∃ t, v = Value.str x t) (f := .ref f) ?_ (each_of_strs hv) ?_ ?_ ?_ ?_ ?_ ?_ ?_ ?_ ?_
    · obtain ⟨o, n, g1, g2, _, g4⟩ := hpl2
      exact ⟨o, g1, g2, n, g4⟩
    · intro d hd d' hd'
      obtain ⟨a, _, rfl⟩ := List.mem_map.mp hd
      obtain ⟨b, _, rfl⟩ := List.mem_map.mp hd'
      simp [lamKey, PySem.W.alike, PySem.W.alikeAll]
    · refine .inl fun d hd => ?_
      obtain ⟨a, _, rfl⟩ := List.mem_map.mp hd
      exact ⟨_, _, rfl⟩
    · rw [sizeLine_eq]
      omega
    · intro a _
      have : (lamKey yS a).depth = 1 := by
        show max 0 (max 0 0) + 1 = 1
        rfl
      rw [this]
      omega
    · rfl
    · intro _
      rfl
    · intro _
      rfl
    · rintro v a ⟨tv, rfl⟩ ha2 h tk2 keep
      refine wpAny_call ?_
      refine lam_run (s := { heap := h, gens := s2.gens, drawn := s2.drawn, toks := tk2, os := s2.os }) (cw := cw) (yS := yS) (ty := ty) ?_ (keep _ _ hf) ?_ ?_ hclo ?_ (hbind _ _ _ _ _ _) hkind hco hge hnc hxl hyl hdx hdy hcy fun h' tk' p kp rd => ?_
      · exact hd
      · obtain ⟨c2, oc, vs2, t2, e1, e2, e3, e4⟩ := hcr
        exact ⟨c2, oc, vs2, t2, e1, keep _ _ e2, e3, e4⟩
      · exact I2.nolimit.keeps keep
      · obtain ⟨oc, e1, e2⟩ := hcell
        exact ⟨oc, keep _ _ e1, e2⟩
      · exact ⟨h', tk', rfl, kp, rd⟩
    · intro out cc h' tk' keep none_ at_ hlen2 eo
      have hn2 : H2 (s2.heap.objs.size + 1) = none := I2.hok.fresh (Nat.le_succ _)
      refine ⟨.ref (s2.heap.objs.size + 1), upd H2 (s2.heap.objs.size + 1) (.lst ((srtBy yS xs).map V.str)), I2.laid (t' := tk') keep (Nat.le_succ _) ?_, rfl, q H2 _ lf hn2⟩
      refine ⟨?_, out, cc, strs_of_each eo, at_⟩
      rw [List.length_map, srtBy, List.length_mergeSort, sizeLine_eq]
      omega

def wSortLam (i : Nat) (wa : W1) : WA := fun ρ P => wa ρ fun d ρ1 => ∃ (xs : List Str) (yS : Str), d = .list (xs.map .str) ∧ xs.length < 4000 ∧ ρ1[i]? = some (.val (.str yS)) ∧ P ((srtBy yS xs).map .str) ρ1
theorem dq_strs {K : PySem.W.Frag} {S : Hp} : ∀ ys : List Str, DqAll K S (ys.map V.str) (ys.map PyData.str)
  | [] => .nil
  | y :: ys => .cons (.str y) (dq_strs ys)
theorem en_sortLam {X : Cx} (i : Nat) {e : Expr} {t1 : TE} {wa : W1} {c P : Addr} {nm : Nat → Nat → Str} {params : Arguments} {scope : Scope} {x y : Str} {p0 p1 p2 p3 p4 p5 lpos kp pos : Pos} {k1 : Nat}
    (hr : Room 0 X.A) (hms : X.mg "sorted" = none) (TB : LamX.TabB X.base X.mg c P) (hcode : X.env.code = .ref c) (hT : (P, nm) ∈ Tabbed.T) (hn : nm lpos.line lpos.col = X.env.qual ++ "<lambda>") (hun : ∀ p ∈ Tabbed.T, p.1 = P → p.2 = nm)
    (ha : EV X e t1 wa) (hi : X.N[i]? = some y := by rfl) (hy : X.env.scope.names.lookup y = some .cell := by rfl)
    (hdef : defaultsOf params X.env = ([], []) := by rfl) (hfree : ∀ z ∈ scope.names, z.2 = .free → z.1 = y := by decide +kernel) (hyf : (y, NameKind.free) ∈ scope.names := by decide +kernel)
    (hbind : ∀ (q : Str) (cl : List (Str × Addr)) (pm cdv ctv v : Value), bindArgs (PySem.W.kla_fn "<lambda>" q params (.Tuple [.Compare (.Name x p1) [.NotEq] [.Name y p2] p3, .Name x p4] k1 p5) scope cl pm cdv ctv) ⟨[v], []⟩ = pure [(x, v)] := by intro _ _ _ _ _ _; rfl)
    (hkind : scope.kind = .function := by rfl) (hco : scope.isCoroutine = false := by rfl) (hge : scope.isGenerator = false := by rfl) (hnc : ∀ z ∈ scope.names, z.2 ≠ .cell := by decide +kernel) (hxl : scope.names.lookup x = some .local := by rfl) (hyl : scope.names.lookup y = some .free := by rfl)
    (hdx : (x == ("__debug__" : Str)) = false := by decide) (hdy : (y == ("__debug__" : Str)) = false := by decide) (hcy : (y == ("__classdict__" : Str)) = false := by decide)
    (hg : Gl X "sorted" := by rfl) (hse : starEach [e] X.env = (false, eval e X.env) :: starEach [] X.env := by rfl) (he : backTo pos (starEach [e] X.env) = (false, eval e X.env) :: backTo pos (starEach [] X.env) := by rfl) (hpl : ((backTo pos (starEach [e] X.env)).any fun x => x.1) = false := by rfl) :
    EN X (.Call (.Name "sorted" p0) [e] [⟨some "key", .Lambda params (.Tuple [.Compare (.Name x p1) [.NotEq] [.Name y p2] p3, .Name x p4] k1 p5) scope lpos, kp⟩] pos) (tSortLam X.K i (tCons t1 tNil)) (wSortLam i wa) :=
  ⟨pe_sortlam (by have := hr.un; omega) (by have := hr.dp; omega) hms TB hcode hT hn hun (pa_cons ha.pe pa_nil hse) hi hy (.inr (.inl hy)) hdef hfree hyf hbind hkind hco hge hnc hxl hyl hdx hdy hcy hg he hpl, fun F ρ P σ S H Q hw R q =>
    ha.sd F ρ _ σ S H _ hw R fun d ρ1 v S1 H1 h1 R1 s1 d1 => by
      obtain ⟨xs, yS, rfl, hl, hy1, hp⟩ := h1
      cases d1 with
      | lst sq da =>
        obtain ⟨w, g1, g2⟩ := R1.at_ i _ hy1
        cases g2
        refine ⟨_, xs, yS, rfl, ?_, hl, g1, R1.tok, fun H2 p lf hn2 => ?_⟩
        · rw [← dqs_of_texts xs da]
          exact same_sqL R1.sub sq
        · have R2 := R1.left lf
          exact q _ ρ1 p _ S1 _ hp (R2.lay hn2 _) s1 (R2.bare hn2) (dq_strs _)⟩

/-! ### a list or a tuple as a test -/
def tTru (K : PySem.W.Frag) (t : TE) : TT := fun σ H Q => t σ H fun x H' => ∃ k, TruV K x H' k ∧ Q k H'
def wTru (w : W1) : WT := fun ρ P => w ρ fun d ρ' => ∃ b ds, d = seqOf b ds ∧ P (!ds.isEmpty) ρ'
theorem isEmpty_len {α β : Type} {xs : List α} {ys : List β} (h : xs.length = ys.length) : xs.isEmpty = ys.isEmpty := by
  cases xs <;> cases ys <;> first | rfl | cases h
theorem et_tru {X : Cx} {e : Expr} {t : TE} {w : W1} (h : EV X e t w) (he : ∀ whole, isTrue e X.env whole = (do let v ← whole; standAt e.pos; holding [v] (truthy v)) := by intro _; rfl) : ET X e (tTru X.K t) (wTru w) :=
  ⟨pt_truth h.pe he, fun F ρ P σ S H Q hw R q => h.sd F ρ _ σ S H _ hw R fun d ρ' v S' H' hp R' sm hd => by
    obtain ⟨b, ds, rfl, hp⟩ := hp
    cases b with
    | false =>
      cases hd with
      | lst sq da => exact ⟨_, .inl ⟨_, same_sqL R'.sub sq, by rw [isEmpty_len da.len]⟩, q _ _ _ _ hp R' sm⟩
    | true =>
      cases hd with
      | tup sq da => exact ⟨_, .inr (.inl ⟨_, same_sqT R'.sub sq, by rw [isEmpty_len da.len]⟩), q _ _ _ _ hp R' sm⟩⟩

/-! ### a def whose code object is told -/
section
variable {P : Program} {w : World} {K : PySem.W.Frag} {mg : Str → Option Value} {base : Heap}
theorem Fun.okC {x qual : Str} {st : Stmt} {f : Addr} {fd : FuncData} {N ps : List Str} {k : Nat} {sp : Sp} (Fn : Fun K x qual st f fd) (Sc : FnScope N ps (defScope st)) (len : ∀ vs H Q E, sp vs H Q E → vs.length = ps.length)
    (hbody : ∀ (cdv : Value) (A : Around) (outer : List Env) (s : Shared) (H : Hp) (vs : List V) (Q : VK) (E : XK), cdv = fd.code → Room k (A.deeper (envOfC qual (defScope st) s.heap.objs.size f cdv)) → sp vs H Q E →
      ∃ t, PSs (cxOf (L2.CX P w) P w K mg base N qual (defScope st) f cdv A outer s H E) (defBody st) t ∧ t { nx := fun _ H' => Q .non H', rt := Q } (L2.start N vs) H) : FnOk P w K mg base (L2.CX P w) (k + 1) f fd ps sp := by
  obtain ⟨oc, od, kV, doc, pm, an, cdv, ct, osl, rfl, lk, hcd⟩ := Fn.ex
  exact fn_of lk hcd Sc len fun A outer s H vs Q E hr hsp => hbody cdv A outer s H vs Q E rfl hr hsp
theorem fn_pureC {x qual : Str} {st : Stmt} {f : Addr} {fd : FuncData} {N ps : List Str} {k n : Nat} {T : TSp} (Fn : Fun K x qual st f fd) (Sc : FnScope N ps (defScope st)) (hn : ps.length = n)
    (hbody : ∀ (cdv : Value) (A : Around) (outer : List Env) (s : Shared) (H : Hp) (E : XK), cdv = fd.code → Room k (A.deeper (envOfC qual (defScope st) s.heap.objs.size f cdv)) →
      ∃ t wt, SVs (cxOf (L2.CX P w) P w K mg base N qual (defScope st) f cdv A outer s H E).nox (defBody st) t wt ∧ ∀ ds P', ds.length = n → T ds P' → wt (startE N ds) { nx := fun _ => P' .none, rt := fun d _ => P' d }) :
    FnOk P w K mg base (L2.CX P w) (k + 1) f fd ps (spV K n T) := by
  refine Fun.okC Fn Sc (fun vs H Q E h => (spV_len vs H Q E h).trans hn.symm) fun cdv A outer s H vs Q E hcd hr hsp => ?_
  obtain ⟨t, wt, hb, hw⟩ := hbody cdv A outer s H E hcd hr
  refine ⟨t, hb.ps.nox, ?_⟩
  obtain ⟨S, ds, P', sm, fo, hd, hl, hT, q⟩ := hsp
  have R := rep_start N sm fo hd
  refine hb.sd _ _ _ _ S H _ (hw ds P' hl hT) R ⟨fun ρ' σ' S' H' h R' s' => ?_, fun d ρ' v σ' S' H' h R' s' hd' => ?_, fun _ _ _ _ h _ _ => h.elim, fun _ _ _ _ h _ _ => h.elim, fun _ _ _ _ _ _ _ h _ _ _ _ => h.elim⟩
  · exact q .none .non S' H' h s' R'.sub (fun b h1 h2 => R'.fresh b h1 h2) ⟨fun b o nt e => R'.keep b o e nt, R'.tok⟩ .non
  · exact q d v S' H' h s' R'.sub (fun b h1 h2 => R'.fresh b h1 h2) ⟨fun b o nt e => R'.keep b o e nt, R'.tok⟩ hd'
end
theorem Left.of {H H' : Hp} (k : ∀ b o, H b = some o → H' b = some o) (t : CodeTabs H) : Left H H' := ⟨fun b o _ e => k b o e, t.same k⟩
theorem Left.trans {H H' H'' : Hp} (l : Left H H') (l2 : Left H' H'') : Left H H'' := ⟨fun b o n e => l2.at_ b o n (l.at_ b o n e), l2.tok⟩
/-! ### the first of the sorted ones -/
theorem srt_mem {y : Str} {xs : List Str} {x : Str} : x ∈ srtBy y xs ↔ x ∈ xs := List.mem_mergeSort
theorem srt_nil {y : Str} {xs : List Str} : srtBy y xs = [] ↔ xs = [] := by
  constructor
  · intro h
    have := List.length_mergeSort (le := PySem.W.dataLe false (lamKey y)) xs
    rw [show xs.mergeSort (PySem.W.dataLe false (lamKey y)) = [] from h] at this
    exact List.eq_nil_of_length_eq_zero this.symm
  · rintro rfl
    simp [srtBy]
theorem lt_lam (y a b : Str) : PySem.W.dataLt (lamKey y a) (lamKey y b) = if (a != y) = (b != y) then decide (a.cps.toList < b.cps.toList) else decide (a = y) := by
  show PySem.W.dataLt (.tuple [.bool (a != y), .str a]) (.tuple [.bool (b != y), .str b]) = _
  rw [PySem.W.dataLt_pair rfl rfl]
  by_cases e : (a != y) = (b != y)
  · rw [if_pos (by rw [e]; cases (b != y) <;> rfl), if_pos e, PySem.W.dataLt_str]
    by_cases h : PyData.eqv (.str a) (.str b) = true
    · rw [if_pos h]
      rw [eqv_str, decide_eq_true_eq] at h
      subst h
      exact (decide_eq_false (List.lt_irrefl _)).symm
    · rw [if_neg h]
  · rw [if_neg e]
    by_cases h1 : a = y
    · by_cases h2 : b = y
      · exact absurd (by rw [h1, h2]) e
      · have e1 : (a != y) = false := by simp [h1]
        have e2 : (b != y) = true := by simp [h2]
        rw [e1, e2, decide_eq_true h1]
        rfl
    · by_cases h2 : b = y
      · have e1 : (a != y) = true := by simp [h1]
        have e2 : (b != y) = false := by simp [h2]
        rw [e1, e2, decide_eq_false h1]
        rfl
      · have e1 : (a != y) = true := by simp [h1]
        have e2 : (b != y) = true := by simp [h2]
        exact absurd (e1.trans e2.symm) e
theorem srt_head {y x : Str} {xs : List Str} (h : (srtBy y xs).head? = some x) : x ∈ xs ∧ ∀ z ∈ xs, PySem.W.dataLt (lamKey y z) (lamKey y x) = false := by
  have tl : PySem.W.TotalLe (PySem.W.dataLe false (lamKey y)) := PySem.W.sortLe_total _ _ _
  have pw := PySem.W.sort_pairwise tl xs
  obtain ⟨t, e⟩ : ∃ t, srtBy y xs = x :: t := by
    cases hs : srtBy y xs with
    | nil => rw [hs] at h; cases h
    | cons a t => rw [hs] at h; cases h; exact ⟨t, rfl⟩
  refine ⟨srt_mem.mp (by rw [e]; exact .head _), fun z hz => ?_⟩
  have pw' : (x :: t).Pairwise (fun a b => PySem.W.dataLe false (lamKey y) a b = true) := e ▸ pw
  have hz' : z ∈ x :: t := e ▸ srt_mem.mpr hz
  have key : PySem.W.dataLe false (lamKey y) x z = true := by
    rcases List.mem_cons.mp hz' with rfl | hz'
    · exact tl.refl z
    · exact (List.pairwise_cons.mp pw').1 z hz'
  rw [PySem.W.dataLe_eq] at key
  have key' : (!PySem.W.dataLt (lamKey y z) (lamKey y x)) = true := key
  rw [Bool.not_eq_true'] at key'
  exact key'
/-- ascending texts: the wanted one if it is there, else the first -/
theorem srt_first {y : Str} {xs : List Str} (pw : xs.Pairwise fun a b => a.cps.toList < b.cps.toList) : (srtBy y xs).head? = if y ∈ xs then some y else xs.head? := by
  cases hs : (srtBy y xs).head? with
  | none =>
    have e : srtBy y xs = [] := List.head?_eq_none_iff.mp hs
    rw [srt_nil.mp e]
    rfl
  | some x =>
    obtain ⟨hx, hl⟩ := srt_head hs
    by_cases hy : y ∈ xs
    · rw [if_pos hy]
      by_cases e : x = y
      · rw [e]
      · have h := hl y hy
        rw [lt_lam, if_neg (by simp [e]), decide_eq_true rfl] at h
        cases h
    · rw [if_neg hy]
      cases xs with
      | nil => cases hx
      | cons a t =>
        rcases List.mem_cons.mp hx with rfl | hx
        · rfl
        · have lt := (List.pairwise_cons.mp pw).1 x hx
          have h := hl a (.head _)
          have n1 : a ≠ y := fun z => hy (z ▸ .head _)
          have n2 : x ≠ y := fun z => hy (z ▸ .tail _ hx)
          have e1 : (a != y) = true := by simp [n1]
          have e2 : (x != y) = true := by simp [n2]
          rw [lt_lam, if_pos (e1.trans e2.symm), decide_eq_true lt] at h
          cases h
end Tr
set_option Elab.async false
set_option linter.all false
set_option maxRecDepth 100000
set_option maxHeartbeats 4000000
namespace K04
open PySem PySem.Spec PyProof.Rows L2 Tr
variable [Tabbed]
local macro_rules | `(tactic| walk_at "tr") => `(tactic| simp only [wRet, wRetN, wExpr, wAsg, wSet, wSetN, wPar, wParV0, wParN0, wAugI, wgNil, wgCons, wCall, wCall0, wCallM, wCallN, wIxO, wFn, wFn1, wFnN, wTuple1, wAppend, wPopAt, wSetO, wNeO, wIsN, wTup, wLst, wYes, wRep, wSliceL, wSliceT, wRev, wRevT, wIsLT, wMinT, wSortLam, ownAt, asInt, asNat, asList, asTuple, someOf, at0, at1, at2, at3, wIf, wB, wOp, wOpN, wName, wLook, wN, wC, wAnd, wOr, wNot, wAndV, wOrV, wNotV, wSeq, wNext, wIfS, wNil, wCons, wPart, wgSeq, gvName, wTurn, wipeE, gI, gI0, gEq, gNe, gLen, gIx, gInt, gAbs, gMin2, gList, gTup1, gAll, gCatL, gCatT, isNone, startE, startM, List.map_cons, List.map_nil, List.length_cons, List.length_nil, List.cons_append, List.nil_append, List.getElem?_cons_zero, List.getElem?_cons_succ, List.set_cons_zero, List.set_cons_succ, List.replicate, List.length_map, if_true, if_false, Bool.false_eq_true, reduceIte, List.mem_cons, List.not_mem_nil, or_false, forall_eq, forall_eq_or_imp, false_implies, implies_true, true_and, and_true, Option.bind_some, Option.map_some, Option.map_none, Int.reduceLT, Int.reduceLE, Int.reduceToNat, Int.toNat_zero, Int.toNat_one, Int.toNat_natCast, Nat.reduceAdd, Nat.reduceLT, decide_true, List.set, Int.add_zero, Int.zero_add])
section
variable {P : Program} {w : World} {K : PySem.W.Frag} {mg : Str → Option Value} {base : Heap}
/-- the versions that would do -/
def goodV (defs : List (Str × Str)) (sym ver : Str) : List Str := (defs.filter fun p => decide (p.1 = sym) && fits p.2 ver).map Prod.snd
def givesOf (defs : List (Str × Str)) (sym ver : Str) : Option Str := (srtBy ver (goodV defs sym ver)).head?
theorem wg_seq {n : Nat} {wgs : WGs} (b : Bool) {ds : List PyData} {ρ : En} {Q : En → Prop} (hn : ds.length = n) (h : wgs ds ρ Q) : wgSeq n wgs (seqOf b ds) ρ Q := by
  cases b <;> exact ⟨hn, h⟩
theorem gIx_lib (b : Bool) (l : Lib) {Q : PyData → Prop} (h : Q (seqOf b (l.defs.map (duoT b)))) : gIx (libT b l) (.int 2) Q := by
  cases b <;> exact h
theorem goodV_next {defs : List (Str × Str)} {k : Nat} {p : Str × Str} (sym ver : Str) (e : defs[k]? = some p) : goodV (defs.take (k + 1)) sym ver = goodV (defs.take k) sym ver ++ (if (decide (p.1 = sym) && fits p.2 ver) = true then [p.2] else []) := by
  unfold goodV
  rw [take_one e, List.filter_append, List.map_append]
  cases h : (decide (p.1 = sym) && fits p.2 ver)
  · simp [h]
  · simp [h]
def tServing : TSp := fun ds Q => ∃ (b c : Bool) (p : Plot) (l : Lib) (i : Nat) (sym ver : Str) (w : Bool), Fine p ∧ p.libs[i]? = some l ∧ okS sym ∧ okS ver ∧ ds = [plotT b p, .str l.own, seqOf c [.str sym, .str ver, .bool w]] ∧ Q (.list ((srtBy ver (goodV l.defs sym ver)).map .str))
theorem ok_serving (T : Top K mg) (TB : LamX.TabB base mg T.cS T.PS) : FnOk P w K mg base (L2.CX P w) 2 T.a_serving T.d_serving ["program", "name", "use"] (spV K 3 tServing) := by
  refine fn_pureC T.F_serving sc_serving rfl fun cv A o s H E hcv hr => ?_
  have nd := sc_serving.nd
  have hu := hr.units
  refine ⟨_, _, (svs_cons (sv_asg (ev_name 2) (gv_seq rfl (gvs_cons (gv_name 3 nd) (gvs_cons (gv_name 4 nd) (gvs_cons (gv_name 5 nd) gvs_nil)))))
      (svs_cons (sv_set 6 nd (ev_ix (ev_call (ok_lib_named T) (hr.mono (by decide)) T.m_lib_named T.F_lib_named.kp T.B_lib_named (ea_cons (ev_name 0) (ea_cons (ev_name 1) ea_nil))) ev_int))
      (svs_cons (sv_setLc (g := gSeq K 2 _) (wg := wgSeq 2 _) (tt := tAnd (tTest (tOp (rEqD K) _ _)) (tB (tCall (spV K 2 tServes) [] E0 _))) 7 [("defined", 8), ("version", 9)] rfl nd (ev_name 6) (blkOk_by (N := N_serving) (sc := defScope s_serving) (by decide +kernel)) (sw_true rfl rfl rfl (by decide +kernel)) (fun _ _ _ _ _ => (gv_seq (n := 2) rfl (gvs_cons (gv_name 8 nd) (gvs_cons (gv_name 9 nd) gvs_nil)))) (fun _ _ _ _ _ => ets_one (ew_and (et_eq hu (ev_name 8) (ev_name 3)) (ew_and1 (et_val (ev_call (ok_serves T) (hr.mono (by decide)) T.m_serves T.F_serves.kp T.B_serves (ea_cons (ev_name 9) (ea_cons (ev_name 4) ea_nil)))))).et) (fun _ _ _ _ _ => (ev_name 9)) (by decide))
      (svs_one (sv_ret (en_sortLam 4 (hr.mono (by decide)) T.b_sorted TB (hcv.trans T.cd_serving) T.tab (by rfl) T.one (ev_name 7)).ev))))), fun ds P' hl hT => ?_⟩
  obtain ⟨b, c, p, l, i, sym, ver, w, hp, hi, hs, hv, rfl, q⟩ := hT
  refine wg_seq (n := 3) c rfl ?_
  walk_at "tr"
  refine ⟨rfl, ?_⟩
  refine ⟨b, p, l, i, hp, hi, rfl, ?_⟩
  dsimp only [wC]
  refine gIx_lib b l ?_
  refine Tr.Later.now ?_
  have L := hp.1 l (List.mem_of_getElem? hi)
  have ss := shaped_str hs
  have sv := shaped_str hv
  show wLc _ _ _ _ _ _ _
  unfold wLc
  refine ⟨b, ?_⟩
  refine ⟨l.defs.map (duoT b), rfl, fun k acc ρ => acc = (goodV (l.defs.take k) sym ver).map .str ∧ ρ = [.val (plotT b p), .val (.str l.own), .val (seqOf c [.str sym, .str ver, .bool w]), .val (.str sym), .val (.str ver), .val (.bool w), .val (seqOf b (l.defs.map (duoT b))), .un, .un, .un], ⟨rfl, rfl⟩, fun k x acc ρ hx hI => ?_, fun acc ρ hI => ?_⟩
  · obtain ⟨rfl, rfl⟩ := hI
    obtain ⟨m, rfl, hm⟩ : ∃ m : Str × Str, x = duoT b m ∧ l.defs[k]? = some m := by
      rw [List.getElem?_map] at hx
      cases e : l.defs[k]? with
      | none => rw [e] at hx; cases hx
      | some m => rw [e] at hx; exact ⟨m, (Option.some.inj hx).symm, rfl⟩
    obtain ⟨o1, o2⟩ := L.defs.2.1 m (List.mem_of_getElem? hm)
    have hk : k < 4 := by
      have h1 := (List.getElem?_eq_some_iff.mp hm).1
      have h2 := L.defs.2.2
      omega
    have nx := goodV_next sym ver hm
    refine ⟨by simp, wg_seq b rfl ?_⟩
    walk_at "tr"
    refine ⟨shaped_str o1, ss, ?_⟩
    rw [nx, eqv_str]
    have lg : (goodV (l.defs.take k) sym ver).length < sizeLine := by
      have h1 : (goodV (l.defs.take k) sym ver).length ≤ k := by
        unfold goodV
        rw [List.length_map]
        exact Nat.le_trans (List.length_filter_le _ _) (by rw [List.length_take]; omega)
      rw [sizeLine_eq]
      omega
    by_cases e1 : m.1 = sym
    · rw [if_pos (by simp [e1])]
      refine ⟨m.2, ver, rfl, o2, hv, ?_⟩
      cases e2 : fits m.2 ver
      · show (if false = true then _ else _)
        rw [if_neg Bool.false_ne_true]
        simp [e1]
      · show (if true = true then _ else _)
        rw [if_pos rfl]
        exact ⟨lg, by simp [e1]⟩
    · rw [if_neg (by simp [e1])]
      simp [e1]
  · obtain ⟨rfl, rfl⟩ := hI
    rw [List.length_map, List.take_length]
    have okg : ∀ x ∈ goodV l.defs sym ver, okS x := fun x hx => by
      obtain ⟨m, hm, rfl⟩ := List.mem_map.mp hx
      exact (L.defs.2.1 m (List.mem_filter.mp hm).1).2
    have l4 : (goodV l.defs sym ver).length < 4000 := by
      have h1 : (goodV l.defs sym ver).length ≤ l.defs.length := by
        unfold goodV
        rw [List.length_map]
        exact List.length_filter_le _ _
      have h2 := L.defs.2.2
      omega
    dsimp only
    refine Tr.Later.now ?_
    walk_at "tr"
    exact ⟨_, ver, rfl, l4, rfl, q⟩
def tGives : TSp := fun ds Q => ∃ (b c : Bool) (p : Plot) (l : Lib) (i : Nat) (sym ver : Str) (w : Bool), Fine p ∧ p.libs[i]? = some l ∧ okS sym ∧ okS ver ∧ ds = [plotT b p, .str l.own, seqOf c [.str sym, .str ver, .bool w]] ∧ Q (optT (givesOf l.defs sym ver))
theorem ok_gives (T : Top K mg) (TB : LamX.TabB base mg T.cS T.PS) : FnOk P w K mg base (L2.CX P w) 3 T.a_gives T.d_gives ["program", "name", "use"] (spV K 3 tGives) := by
  refine fn_pure T.F_gives sc_gives rfl fun cv A o s H E hr => ?_
  have nd := sc_gives.nd
  refine ⟨_, _, (svs_cons (sv_set 3 nd (ev_call (ok_serving T TB) (hr.mono (by decide)) T.m_serving T.F_serving.kp T.B_serving (ea_cons (ev_name 0) (ea_cons (ev_name 1) (ea_cons (ev_name 2) ea_nil)))))
      (svs_one (sv_ret (ev_if (et_tru (ev_name 3)) (ev_ix (ev_name 3) ev_int) ev_non)))), fun ds P' hl hT => ?_⟩
  obtain ⟨b, c, p, l, i, sym, ver, w, hp, hi, hs, hv, rfl, q⟩ := hT
  walk_at "tr"
  refine ⟨b, c, p, l, i, sym, ver, w, hp, hi, hs, hv, rfl, ?_⟩
  dsimp only
  refine Tr.Later.now ?_
  walk_at "tr"
  unfold givesOf at q
  cases e : srtBy ver (goodV l.defs sym ver) with
  | nil =>
    rw [e] at q
    refine ⟨false, [], rfl, ?_⟩
    exact q
  | cons y ys =>
    rw [e] at q
    refine ⟨false, _, rfl, ?_⟩
    show (if true = true then _ else _)
    rw [if_pos rfl]
    have e0 : atI ((y :: ys).map PyData.str) 0 = some (.str y) := by simp [atI, ixN]
    simp only [List.getElem?_cons_succ, List.getElem?_cons_zero, e0]
    exact q
end
theorem optT_D (o : Option Str) : optT o = optD o := by cases o <;> rfl
/-- what gives tells is what is due -/
theorem gives_due (defs : List (Str × Str)) (sym ver : Str) (h : defs.Pairwise PairLt) : givesOf defs sym ver = dueOf defs sym ver := by
  have m : ver ∈ goodV defs sym ver ↔ (sym, ver) ∈ defs := by
    unfold goodV
    constructor
    · intro hm
      obtain ⟨p, hp, e⟩ := List.mem_map.mp hm
      have h1 := List.mem_filter.mp hp
      have h2 : p.1 = sym := by
        have := h1.2
        rw [Bool.and_eq_true, decide_eq_true_eq] at this
        exact this.1
      have e2 : p = (sym, ver) := Prod.ext h2 e
      exact e2 ▸ h1.1
    · intro hm
      exact List.mem_map.mpr ⟨(sym, ver), List.mem_filter.mpr ⟨hm, by simp [fits]⟩, rfl⟩
  have pw : (goodV defs sym ver).Pairwise (fun a b => a.cps.toList < b.cps.toList) := by
    unfold goodV
    refine List.pairwise_map.mpr ((h.filter _).imp_of_mem fun {p q} hp hq lt => ?_)
    have h1 := (List.mem_filter.mp hp).2
    have h2 := (List.mem_filter.mp hq).2
    rw [Bool.and_eq_true, decide_eq_true_eq] at h1 h2
    rcases lt with lt | lt
    · rw [h1.1, h2.1] at lt
      exact absurd lt (List.lt_irrefl _)
    · exact lt.2
  unfold givesOf dueOf
  rw [srt_first pw]
  by_cases c : (sym, ver) ∈ defs
  · rw [if_pos c, if_pos (m.mpr c)]
  · rw [if_neg c, if_neg fun z => c (m.mp z)]
    unfold goodV firstFit
    rw [List.head?_map, List.head?_filter]
end K04
set_option Elab.async false
set_option linter.all false
set_option maxRecDepth 100000
set_option maxHeartbeats 4000000
namespace K04
open PySem PySem.Spec PyProof.Rows L2 Tr
variable [Tabbed]
local macro_rules | `(tactic| walk_at "tr") => `(tactic| simp only [wRet, wRetN, wExpr, wAsg, wSet, wSetN, wPar, wParV0, wParN0, wAugI, wgNil, wgCons, wCall, wCall0, wCallM, wCallN, wIxO, wFn, wFn1, wFnN, wTuple1, wAppend, wPopAt, wSetO, wNeO, wIsN, wTup, wLst, wYes, wRep, wSliceL, wSliceT, wRev, wRevT, wIsLT, wMinT, ownAt, asInt, asNat, asList, asTuple, someOf, at0, at1, at2, at3, wIf, wB, wOp, wOpN, wName, wLook, wN, wC, wAnd, wOr, wNot, wAndV, wOrV, wNotV, wSeq, wNext, wIfS, wNil, wCons, wPart, wgSeq, gvName, wTurn, wipeE, gI, gI0, gEq, gNe, gLen, gIx, gInt, gAbs, gMin2, gList, gTup1, gAll, gCatL, gCatT, isNone, startE, startM, List.map_cons, List.map_nil, List.length_cons, List.length_nil, List.cons_append, List.nil_append, List.getElem?_cons_zero, List.getElem?_cons_succ, List.set_cons_zero, List.set_cons_succ, List.replicate, List.length_map, if_true, if_false, Bool.false_eq_true, reduceIte, List.mem_cons, List.not_mem_nil, or_false, forall_eq, forall_eq_or_imp, false_implies, implies_true, true_and, and_true, Option.bind_some, Option.map_some, Option.map_none, Int.reduceLT, Int.reduceLE, Int.reduceToNat, Int.toNat_zero, Int.toNat_one, Int.toNat_natCast, Nat.reduceAdd, Nat.reduceLT, decide_true, List.set, Int.add_zero, Int.zero_add])
section
variable {P : Program} {w : World} {K : PySem.W.Frag} {mg : Str → Option Value} {base : Heap}
/-- a tree that can be told, and its telling compared -/
def Told (d : PyData) : Prop := Shows d ∧ SeqAt.shaped (.str d.shown) = true
def tSame : TSp := fun ds Q => ∃ a, ds = [a, a] ∧ Told a ∧ Q (.bool true)
theorem ok_same (T : Top K mg) : FnG P w K mg base 1 T.a_same T.d_same ["_law_found", "_law_due_here"] (spV K 2 tSame) := by
  refine fn_pureG T.F_same sc_same rfl fun c A o s H E hgd hr => ?_
  have nd := sc_same.nd
  have hu := hr.units
  have hu6 : (A.deeper (envOfC "_law_same" (defScope s_same) s.heap.objs.size T.a_same c)).units + 66 < cLine := by have := hr.un; omega
  refine ⟨_, _, (svs_one (sv_ret (ev_eq hu (ev_repr hgd hu6 T.b_repr (er_name 0)) (ev_repr hgd hu6 T.b_repr (er_name 1))))), fun ds P' hl hT => ?_⟩
  obtain ⟨a, rfl, ha, q⟩ := hT
  walk_at "tr"
  refine ⟨ha.1, ha.1, ha.2, ha.2, ?_⟩
  rw [eqv_str, decide_eq_true rfl]
  exact q
theorem words_told : ∀ x ∈ words, ((PyData.list [.str x, .str x]).showable = true ∧ (PyData.list [.str x, .str x]).hasDict = false ∧ (PyData.list [.str x, .str x]).shown.length ≤ 1000 ∧ (PyData.list [.str x, .str x]).depth ≤ 64) ∧ PyData.strOk (PyData.list [.str x, .str x]).shown = true := by decide +kernel
theorem none_told : ((PyData.list [.none, .none]).showable = true ∧ (PyData.list [.none, .none]).hasDict = false ∧ (PyData.list [.none, .none]).shown.length ≤ 1000 ∧ (PyData.list [.none, .none]).depth ≤ 64) ∧ PyData.strOk (PyData.list [.none, .none]).shown = true := by decide +kernel
theorem told_twice {o : Option Str} (h : ∀ x, o = some x → okS x) : Told (.list [optD o, optD o]) := by
  have key : ∀ d : PyData, (d.showable = true ∧ d.hasDict = false ∧ d.shown.length ≤ 1000 ∧ d.depth ≤ 64) ∧ PyData.strOk d.shown = true → Told d := fun d hd => by
    obtain ⟨⟨h1, h2, h3, h4⟩, h5⟩ := hd
    exact ⟨⟨h1, h2, Nat.le_trans h3 (by decide), h4⟩, (good_str (n := 0) h5).shaped (by decide)⟩
  cases o with
  | none => exact key _ none_told
  | some x => exact key _ (words_told x (h x rfl).2.2)
end
end K04
set_option Elab.async false
set_option linter.all false
set_option maxRecDepth 100000
set_option maxHeartbeats 4000000
namespace K04
open PySem PySem.Spec PyProof.Rows L2 Tr
variable [Tabbed]
local macro_rules | `(tactic| walk_at "tr") => `(tactic| simp only [wRet, wRetN, wExpr, wAsg, wSet, wSetN, wPar, wParV0, wParN0, wAugI, wgNil, wgCons, wCall, wCall0, wCallM, wCallN, wIxO, wFn, wFn1, wFnN, wTuple1, wAppend, wPopAt, wSetO, wNeO, wIsN, wTup, wLst, wYes, wRep, wSliceL, wSliceT, wRev, wRevT, wIsLT, wMinT, ownAt, asInt, asNat, asList, asTuple, someOf, at0, at1, at2, at3, wIf, wB, wOp, wOpN, wName, wLook, wN, wC, wAnd, wOr, wNot, wAndV, wOrV, wNotV, wSeq, wNext, wIfS, wNil, wCons, wPart, wgSeq, gvName, wTurn, wipeE, gI, gI0, gEq, gNe, gLen, gIx, gInt, gAbs, gMin2, gList, gTup1, gAll, gCatL, gCatT, isNone, startE, startM, List.map_cons, List.map_nil, List.length_cons, List.length_nil, List.cons_append, List.nil_append, List.getElem?_cons_zero, List.getElem?_cons_succ, List.set_cons_zero, List.set_cons_succ, List.replicate, List.length_map, if_true, if_false, Bool.false_eq_true, reduceIte, List.mem_cons, List.not_mem_nil, or_false, forall_eq, forall_eq_or_imp, false_implies, implies_true, true_and, and_true, Option.bind_some, Option.map_some, Option.map_none, Int.reduceLT, Int.reduceLE, Int.reduceToNat, Int.toNat_zero, Int.toNat_one, Int.toNat_natCast, Nat.reduceAdd, Nat.reduceLT, decide_true, List.set, Int.add_zero, Int.zero_add])
section
variable {P : Program} {w : World} {K : PySem.W.Frag} {mg : Str → Option Value} {base : Heap}
def defsX : List (Str × Str) := [("f", "aa"), ("f", "b"), ("f", "cc"), ("f", "d")]
def libX : Lib := ⟨"x", [], defsX, []⟩
def plotX : Plot := ⟨[⟨"main", [], [], []⟩, libX], [], []⟩
def versX : List Str := ["", "d", "cc", "zz", "a"]
theorem words_ok : ∀ x ∈ words, PyData.strOk x = true ∧ x.length ≤ 8 := by decide +kernel
theorem okS_word {x : Str} (h : x ∈ words) : okS x := ⟨(words_ok x h).1, (words_ok x h).2, h⟩
theorem defsX_words : ∀ p ∈ defsX, p.1 ∈ words ∧ p.2 ∈ words := by decide +kernel
theorem fineX : Fine plotX := by
  refine ⟨fun l hl => ?_, by decide +kernel⟩
  rcases List.mem_cons.mp hl with rfl | hl
  · exact ⟨okS_word (by decide +kernel), ⟨(fun x hx => nomatch hx), by decide⟩, ⟨.nil, (fun x hx => nomatch hx), by decide⟩, ⟨(fun x hx => nomatch hx), by decide⟩⟩
  · rw [List.mem_singleton.mp hl]
    refine ⟨okS_word (by decide +kernel), ⟨(fun x hx => nomatch hx), by decide⟩, ⟨?_, fun p hp => ⟨okS_word (defsX_words p hp).1, okS_word (defsX_words p hp).2⟩, by decide⟩, ⟨(fun x hx => nomatch hx), by decide⟩⟩
    have lt : ∀ a b : Str, a.cps.toList < b.cps.toList → PairLt ("f", a) ("f", b) := fun a b h => .inr ⟨rfl, h⟩
    show List.Pairwise PairLt defsX
    unfold defsX
    simp only [List.pairwise_cons, List.mem_cons, List.not_mem_nil, or_false, forall_eq_or_imp, forall_eq, false_implies, implies_true, List.Pairwise.nil, and_true]
    refine ⟨⟨lt _ _ (by decide +kernel), lt _ _ (by decide +kernel), lt _ _ (by decide +kernel)⟩, ⟨lt _ _ (by decide +kernel), lt _ _ (by decide +kernel)⟩, lt _ _ (by decide +kernel)⟩
def tLength : TSp := fun ds Q => ds = [] ∧ Q (.bool true)
theorem ok_length_right (T : Top K mg) (TB : LamX.TabB base mg T.cS T.PS) : FnG P w K mg base 4 T.a_length_right T.d_length_right [] (spV K 0 tLength) := by
  refine fn_pureG T.F_length_right sc_length_right rfl fun c A o s H E hgd hr => ?_
  have nd := sc_length_right.nd
  refine ⟨_, _, (svs_cons (sv_set 0 nd (ev_tup (ea_cons (ev_tup (ea_cons (ev_tup (ea_cons ev_str (ea_cons (ev_tup ea_nil) (ea_cons (ev_tup ea_nil) (ea_cons (ev_tup ea_nil) ea_nil))))) (ea_cons (ev_tup (ea_cons ev_str (ea_cons (ev_tup ea_nil) (ea_cons (ev_tup (ea_cons (ev_tup (ea_cons ev_str (ea_cons ev_str ea_nil))) (ea_cons (ev_tup (ea_cons ev_str (ea_cons ev_str ea_nil))) (ea_cons (ev_tup (ea_cons ev_str (ea_cons ev_str ea_nil))) (ea_cons (ev_tup (ea_cons ev_str (ea_cons ev_str ea_nil))) ea_nil))))) (ea_cons (ev_tup ea_nil) ea_nil))))) ea_nil))) (ea_cons (ev_tup ea_nil) (ea_cons (ev_tup ea_nil) ea_nil)))))
      (svs_cons (sv_setLc (te := tCall (spV K 3 tGives) [] E0 _) 1 [("_law_version", 2)] rfl nd (ev_tup (ea_cons ev_str (ea_cons ev_str (ea_cons ev_str (ea_cons ev_str (ea_cons ev_str ea_nil)))))) (blkOk_by (N := N_length_right) (sc := defScope s_length_right) (by decide +kernel)) (sw_true rfl rfl rfl (by decide +kernel)) (fun _ _ _ _ _ => (gv_name 2 nd)) (fun _ _ _ _ _ => ets_nil) (fun _ _ _ _ _ => (ev_call (ok_gives T TB) (hr.mono (by decide)) T.m_gives T.F_gives.kp T.B_gives (ea_cons (ev_name 0) (ea_cons ev_str (ea_cons (ev_tup (ea_cons ev_str (ea_cons (ev_name 2) (ea_cons ev_bl ea_nil)))) ea_nil))))) (by decide))
      (svs_one (sv_ret (ev_callG (ok_same T) hgd (hr.mono (by decide)) T.m_same T.F_same.kp T.B_same (ea_cons (ev_name 1) (ea_cons (en_lst (ea_cons ev_str (ea_cons ev_str (ea_cons ev_str (ea_cons ev_non (ea_cons ev_non ea_nil)))))).ev ea_nil))))))), fun ds P' hl hT => ?_⟩
  obtain ⟨rfl, q⟩ := hT
  walk_at "tr"
  repeat refine ⟨by decide, ?_⟩
  refine Tr.Later.now ?_
  have acc_ok : ∀ x ∈ versX, okS x := fun x hx => okS_word ((by decide +kernel : ∀ x ∈ versX, x ∈ words) x hx)
  show wLc _ _ _ _ _ _ _
  unfold wLc
  refine ⟨true, ?_⟩
  refine ⟨by decide, versX.map .str, rfl, fun k acc ρ => acc = (versX.take k).map (fun v => optT (givesOf defsX "f" v)) ∧ ρ = [.val (plotT true plotX), .un, .un], ⟨rfl, rfl⟩, fun k x acc ρ hx hI => ?_, fun acc ρ hI => ?_⟩
  · obtain ⟨rfl, rfl⟩ := hI
    obtain ⟨v, rfl, hv⟩ : ∃ v : Str, x = .str v ∧ versX[k]? = some v := by
      rw [List.getElem?_map] at hx
      cases e : versX[k]? with
      | none => rw [e] at hx; cases hx
      | some v => rw [e] at hx; exact ⟨v, (Option.some.inj hx).symm, rfl⟩
    refine ⟨by simp, ?_⟩
    walk_at "tr"
    refine ⟨by decide, true, true, plotX, libX, 1, "f", v, false, fineX, rfl, okS_word (by decide +kernel), acc_ok v (List.mem_of_getElem? hv), rfl, ?_, ?_⟩
    · rw [sizeLine_eq, List.length_take]
      have : k < versX.length := (List.getElem?_eq_some_iff.mp hv).1
      have h5 : versX.length = 5 := rfl
      omega
    · rw [take_one hv, List.map_append]
      rfl
  · obtain ⟨rfl, rfl⟩ := hI
    dsimp only
    refine Tr.Later.now ?_
    have e : (versX.take (versX.map PyData.str).length).map (fun v => optT (givesOf defsX "f" v)) = [.str "aa", .str "d", .str "cc", .none, .none] := by
      rw [List.length_map, List.take_length]
      have h : versX.map (fun v => givesOf defsX "f" v) = ([some ("aa" : Str), some ("d" : Str), some ("cc" : Str), none, none] : List (Option Str)) := by
        have pw : defsX.Pairwise PairLt := (fineX.1 libX (List.mem_cons_of_mem _ (.head _))).defs.1
        have e2 : (fun v => givesOf defsX "f" v) = fun v => dueOf defsX "f" v := funext fun v => gives_due defsX "f" v pw
        rw [e2]
        decide +kernel
      have h2 := congrArg (List.map optT) h
      rw [List.map_map] at h2
      exact h2
    rw [e]
    walk_at "tr"
    refine ⟨by decide, _, rfl, ?_, q⟩
    have h : ((PyData.list [.str "aa", .str "d", .str "cc", .none, .none]).showable = true ∧ (PyData.list [.str "aa", .str "d", .str "cc", .none, .none]).hasDict = false ∧ (PyData.list [.str "aa", .str "d", .str "cc", .none, .none]).shown.length ≤ 1000 ∧ (PyData.list [.str "aa", .str "d", .str "cc", .none, .none]).depth ≤ 64) ∧ PyData.strOk (PyData.list [.str "aa", .str "d", .str "cc", .none, .none]).shown = true := by decide +kernel
    obtain ⟨⟨h1, h2, h3, h4⟩, h5⟩ := h
    exact ⟨⟨h1, h2, Nat.le_trans h3 (by decide), h4⟩, (good_str (n := 0) h5).shaped (by decide)⟩
end
end K04
set_option Elab.async false
set_option linter.all false
set_option maxRecDepth 100000
set_option maxHeartbeats 4000000
namespace K04
open PySem PySem.Spec PyProof.Rows L2 Tr
variable [Tabbed]
local macro_rules | `(tactic| walk_at "tr") => `(tactic| simp only [wRet, wRetN, wExpr, wAsg, wSet, wSetN, wPar, wParV0, wParN0, wAugI, wgNil, wgCons, wCall, wCall0, wCallM, wCallN, wIxO, wFn, wFn1, wFnN, wTuple1, wAppend, wPopAt, wSetO, wNeO, wIsN, wTup, wLst, wYes, wRep, wSliceL, wSliceT, wRev, wRevT, wIsLT, wMinT, wCallRev, ownAt, asInt, asNat, asList, asTuple, someOf, at0, at1, at2, at3, wIf, wB, wOp, wOpN, wName, wLook, wN, wC, wAnd, wOr, wNot, wAndV, wOrV, wNotV, wSeq, wNext, wIfS, wNil, wCons, wPart, wgSeq, gvName, wTurn, wipeE, gI, gI0, gEq, gNe, gLen, gIx, gInt, gAbs, gMin2, gList, gTup1, gAll, gCatL, gCatT, isNone, startE, startM, List.map_cons, List.map_nil, List.length_cons, List.length_nil, List.cons_append, List.nil_append, List.getElem?_cons_zero, List.getElem?_cons_succ, List.set_cons_zero, List.set_cons_succ, List.replicate, List.length_map, if_true, if_false, Bool.false_eq_true, reduceIte, List.mem_cons, List.not_mem_nil, or_false, forall_eq, forall_eq_or_imp, false_implies, implies_true, true_and, and_true, Option.bind_some, Option.map_some, Option.map_none, Int.reduceLT, Int.reduceLE, Int.reduceToNat, Int.toNat_zero, Int.toNat_one, Int.toNat_natCast, Nat.reduceAdd, Nat.reduceLT, decide_true, List.set, Int.add_zero, Int.zero_add])
section
variable {P : Program} {w : World} {K : PySem.W.Frag} {mg : Str → Option Value} {base : Heap}
theorem kb_gives (T : Top K mg) : KBn K T.d_gives ["program", "name", "use"] 0 ["use", "name", "program"] (fun _ ws => ws.reverse) (fun _ zs => zs.reverse) where
  to := fun s us ws _ h1 h2 => by
    obtain ⟨oc, od, kV, doc, pm, an, cdv, ct, osl, e, lk, hcd⟩ := T.F_gives.ex
    rw [e]
    match us, ws, h1, h2 with
    | [], [a, b, c], _, _ => exact .of_eq (by rfl)
  rel := fun _ r => r.reverse
/-- a name of no library is told -/
def tRefused : TSp := fun ds Q => ∃ (b : Bool) (p : Plot) (x : Str), Fine p ∧ okS x ∧ (∀ l ∈ p.libs, l.own ≠ x) ∧ ds = [plotT b p, .str x] ∧ Q (.str x)
theorem soft_texts (n : Nat) (xs : List Str) (h : xs.length ≤ 100) : Soft (n + 1) (.tuple (xs.map .str)) (.list (xs.map .str)) := by
  refine .tuple rfl (by rw [List.length_map]; exact h) fun i d e h1 h2 => ?_
  rw [h1] at h2
  cases h2
  rw [List.getElem?_map] at h1
  cases hx : xs[i]? with
  | none => rw [hx] at h1; cases h1
  | some x => rw [hx] at h1; cases h1; exact .str x
theorem soft_map {α : Type} {n : Nat} {f g : α → PyData} (xs : List α) (h : xs.length ≤ 100) (hs : ∀ x ∈ xs, Soft n (f x) (g x)) : Soft (n + 1) (.tuple (xs.map f)) (.list (xs.map g)) := by
  refine .tuple (by rw [List.length_map, List.length_map]) (by rw [List.length_map]; exact h) fun i d e h1 h2 => ?_
  rw [List.getElem?_map] at h1 h2
  cases hx : xs[i]? with
  | none => rw [hx] at h1; cases h1
  | some x =>
    rw [hx] at h1 h2
    cases h1
    cases h2
    exact hs x (List.mem_of_getElem? hx)
theorem soft_all {n : Nat} {ds es : List PyData} (h : ds.length ≤ 100) (hs : PySem.W.EachIs (Soft n) ds es) : Soft (n + 1) (.tuple ds) (.list es) := by
  refine .tuple hs.length h fun i d e h1 h2 => hs.zip (d, e) ?_
  refine List.mem_iff_getElem?.mpr ⟨i, ?_⟩
  exact List.getElem?_zip_eq_some.mpr ⟨h1, h2⟩
theorem soft_duo (n : Nat) (p : Str × Str) : Soft (n + 1) (duoT true p) (duoT false p) := soft_all (by simp) (.cons (.str _) (.cons (.str _) .nil))
theorem soft_use (n : Nat) (u : (Str × Str) × Bool) : Soft (n + 1) (useT true u) (useT false u) := soft_all (by simp) (.cons (.str _) (.cons (.str _) (.cons (.bool _) .nil)))
theorem soft_lib (l : Lib) (h : l.Ok) : Soft 3 (libT true l) (libT false l) :=
  soft_all (by simp) (.cons (.str _) (.cons (soft_texts 1 l.needs (by have := h.needs.2; omega)) (.cons (soft_map l.defs (by have := h.defs.2.2; omega) fun p _ => soft_duo 0 p) (.cons (soft_map l.uses (by have := h.uses.2; omega) fun u _ => soft_use 0 u) .nil))))
theorem soft_plot (p : Plot) (h : p.Ok) : Soft 5 (plotT true p) (plotT false p) :=
  soft_all (by simp) (.cons (soft_map p.libs (by have := h.libs.2.1; omega) fun l hl => soft_lib l (h.libs.1 l hl).1) (.cons (soft_texts 3 p.early (by have := h.early.2; omega)) (.cons (soft_map p.doors (by have := h.doors.2; omega) fun d _ => soft_duo 2 d) .nil)))
def tRight : TSm := fun cs ds Q => ds = [] ∧ BoxOk 1000 cs ∧ ∀ cs', BoxOk 10000 cs' → Q (.bool true) cs'
end
end K04
set_option Elab.async false
set_option linter.all false
set_option maxRecDepth 100000
set_option maxHeartbeats 2000000
/-! TrX: an own error over LookupError with one field, raised, caught by a tuple of classes, kept in a name behind the suite, asked by isinstance, its field read. -/
namespace TrX
open PySem PySem.W PySem.Calls PyProof.Rows PySem.HandSPX PySem.Spec
variable [Tr.Tabbed]
abbrev leTail : List Value := [.type "LookupError", .type "Exception", .type "BaseException", .type "object"]
/-! ### the text of __init__ -/
def iA (f : Str) (p1 p2 : Pos) : Arguments := { posonlyargs := [], args := [{ arg := "self", annotation := none, pos := p1 }, { arg := f, annotation := none, pos := p2 }], vararg := none, kwonlyargs := [], kw_defaults := [], kwarg := none, defaults := [] }
def iB (f : Str) (q1 q2 q3 q4 : Pos) : List Stmt := [.Assign [.Attribute (.Name "self" q1) f q2] (.Name f q3) q4]
def iS (f : Str) : Scope := { kind := .function, names := [(PySem.Str.ofString "self", .local), (f, .local)], isGenerator := false, isCoroutine := false, more := [] }
abbrev fN : Str := "name"
/-- what the written part says of the class cn, at C, and of its __init__, at fI -/
structure LkTxt (K : Frag) (mg : Str → Option Value) (cn : Str) (q1n : Str) (C fI : Addr) : Prop where
  gC : mg cn = some (.ref C)
  cls : ∃ nm q N bs sn sub ab col dd k0 k1 k2 k3 k5, K.lookup C = some (excClassObj nm q C N bs leTail true sn sub ab col dd k0 k1 k2 k3 k5 "LookupError.__new__")
  sa : findIn K (.ref C) "__setattr__" = some (some (.builtin "object.__setattr__"))
  ga : findIn K (.ref C) "__getattribute__" = some (some (.builtin "BaseException.__getattribute__"))
  gg : findIn K (.ref C) "__getattr__" = some none
  noN : findIn K (.ref C) fN = some none
  iC : findIn K (.ref C) "__init__" = some (some (.ref fI))
  tC : typeIn K (.ref fI) = some (.type "function")
  kC : keepIn K (.ref C) = true
  exC : subIn K (.ref C) (.type "BaseException") = some true
  tyC : typeIn K (.ref C) = some (.type "type")
  hdC : hasDictIn K C = true
  cC : findIn K (.ref C) "__class__" = some (some (.builtin "object.__class__"))
  cG : specialIn K (.builtin "object.__class__") "__get__" = some (some (.builtin "getset_descriptor.__get__"))
  cT : takesIn K (.builtin "object.__class__") = some true
  cM : mroIn K C (.type "object") = some true
  fn : ∃ (oc : Value) (od : Option Addr) (doc pm : Value) (an : Option Addr) (cdv ct : Value) (osl : Array (Option Value)) (p1 p2 q1 q2 q3 q4 : Pos),
    K.lookup fI = some ⟨oc, od, .func (fnOf "__init__" q1n (iA fN p1 p2) (iB fN q1 q2 q3 q4) (iS fN) .none .none doc pm an cdv ct), osl⟩ ∧ codeIn K cdv q1n = true
theorem ldC {M : Model} {s : Shared} {name : Str} {scope : Scope} {L a : Addr} {cd : Value} {m : Str → Option Value} {x : Str} {pos : Pos} {v : Value} {Q : Value → Shared → Prop} {A : Around} {E : Value → Shared → Prop} (hn : s.heap.Ns L m) (hv : m x = some v) (h : Q v s)
    (hk : scope.kind = .function := by rfl) (hl : (envOfC name scope L a cd).kindOf x = some .local := by rfl) (hd : (x == ("__debug__" : Str)) = false := by decide) :
    wpAny M A (eval (.Name x pos) (envOfC name scope L a cd)) Q E s := wpAny_Name (wpAny_loadName_local hk hl hn hv h) hd
section
open Builtin Builtin.ObjectAttr
variable {prog : Program} {w : World} {A : Around} {E : Value → Shared → Prop} {R : Result → Shared → Prop} {hp : Heap} {g : Array GenState} {d : Drawn} {t : Nat} {os : OsState} {K : Frag}
/-- the first field of a fresh error over LookupError -/
theorem lk_osa {name : Str} {tk : Tok} {v : Value} {x C : Addr} {fv : Array Value} {cd : ClassData} (X : K.In hp) (hx : hp.get? x = some { cls := .ref C, data := .fields fv }) (hcd : clsIn K C = some cd) (hm : cd.mro = .ref C :: leTail) (hh : cd.hasDict = true) (ha : findIn K (.ref C) name = some none)
    (hq : ∀ h' tk' dx, (∀ b o, b ≠ x → hp.get? b = some o → h'.get? b = some o) → hp.objs.size ≤ dx → dx ≠ x → h'.get? x = some { cls := .ref C, dict := some dx, data := .fields fv } →
      h'.Ns1 dx (fun y => if y = name then some v else none) → R (.ok (.ret .none)) ⟨h', g, d, tk', os⟩) :
    codeAny (model prog w) A (.call (.builtin "object.__setattr__") ⟨[.ref x, .str name tk, v], []⟩) R ⟨hp, g, d, t, os⟩ := by
  have over : excOver K C leTail = true := by
    unfold excOver
    rw [hcd]
    show (match cd.mro with | .ref C' :: bm => C' == C && excTail leTail bm | _ => false) = true
    rw [hm]
    show (C == C && excTail leTail leTail) = true
    rw [beq_self_eq_true]
    decide +kernel
  have taker : takerIn K C name = some none := by
    unfold takerIn
    rw [ha]
    rfl
  have hxs : x ≠ hp.objs.size := Nat.ne_of_lt (Heap.lt_size hx)
  refine osa_openX (od := none) F.store_LookupError X ⟨hx, rfl, rfl, trivial⟩ over taker fun b => ?_
  have hcls : W.Looks (model prog w) hp (classData C) cd := looks_clsIn X hcd
  obtain ⟨nm, bs, mro, ns, qn, hd, sn, sb, ab, col, del⟩ := cd
  have hh' : hd = true := hh
  subst hh'
  show wpAny _ _ (storeInOwnDict (.ref x) (.ref C) (.str name tk) name v b) _ _ _
  unfold storeInOwnDict ownDictForStores
  repeat (first | with_reducible refine HandSPX.store_in_new ?_ ?_ | with_reducible refine wpAny_loadPart_at hx ?_ | with_reducible refine hcls.at ?_ | wp_step)
  · exact ⟨_, #[], _, Eq.trans (Heap.get?_update_ne _ _ _ _ (Ne.symm hxs)) (Heap.get?_push_at rfl rfl), rfl, fun e he => absurd he (by simp),
      fun _ => rfl⟩
  · intro h2 tk2 hn2 same
    have hx1 : (hp.push { cls := .type "dict", data := .dict #[] }).get? x = some ({ cls := .ref C, data := .fields fv } : Obj) := Heap.get?_push_of_some _ hx
    refine hq h2 tk2 hp.objs.size (fun b o hb ho => ?_) (Nat.le_refl _) hxs.symm ?_ hn2
    · have e1 := same.2 b (Nat.ne_of_lt (Heap.lt_size ho))
      exact e1.trans ((Heap.get?_update_ne _ _ _ _ hb).trans (Heap.get?_push_of_some _ ho))
    · exact (same.2 x hxs).trans (Heap.get?_update_self _ hx1 rfl)
end
/-- what __init__ leaves of a fresh exception at x -/
structure Begun (h h' : Heap) (x C dx t1 : Addr) (v : Value) : Prop where
  keep : ∀ b o, b ≠ x → h.get? b = some o → h'.get? b = some o
  obj : h'.get? x = some { cls := .ref C, dict := some dx, data := .fields #[.ref t1, .none, .none, .none, .bool false, .none] }
  dbig : h.objs.size ≤ dx
  dne : dx ≠ x
  ns : h'.Ns1 dx (fun y => if y = fN then some v else none)
/-- a made error -/
structure MadeLk (h h' : Heap) (e C d : Addr) (v : Value) : Prop where
  keep : ∀ b o, h.get? b = some o → h'.get? b = some o
  new : h.objs.size ≤ e
  obj : ∃ oe vs, h'.get? e = some oe ∧ oe.cls = .ref C ∧ oe.dict = some d ∧ oe.data = .fields vs ∧ vs[1]? = some .none
  dbig : h.objs.size ≤ d
  dne : d ≠ e
  ns : h'.Ns1 d (fun y => if y = fN then some v else none)
section
variable {prog : Program} {w : World} {A : Around} {E : Value → Shared → Prop} {R : Result → Shared → Prop} {s : Shared} {K : Frag} {mg : Str → Option Value} {cn q1n : Str} {C fI : Addr}
theorem lk_init (T : LkTxt K mg cn q1n C fI) {x t0 : Addr} {v : Value} (X : K.In s.heap) (hlim : s.heap.NoLimit) (hx : s.heap.get? x = some (excO C t0)) (hroom : A.depth < recursionLimit)
    (hq : ∀ h' tk dx, Begun s.heap h' x C dx t0 v → R (.ok (.ret .none)) { s with heap := h', toks := tk }) :
    codeAny (model prog w) A (.call (.ref fI) ⟨[.ref x, v], []⟩) R s := by
  obtain ⟨oc, od, doc, pm, an, cdv, ct, osl, p1, p2, q1, q2, q3, q4, ho, hcd⟩ := T.fn
  obtain ⟨nm, q, N, bs, sn, sub, ab, col, dd, k0, k1, k2, k3, k5, hC⟩ := T.cls
  have hcl : clsIn K C = some { name := nm, bases := bs, mro := .ref C :: leTail, ns := N, qualname := q, hasDict := true, slotNames := sn, subclasses := sub, abstract := ab, collection := col, hasDel := false } := by
    unfold clsIn
    rw [hC] <;> rfl
  refine Att.call_fn (binds := [("self", .ref x), (fN, v)]) X hlim ho hcd hroom (BindsTo.of_eq (by first | rfl | with_unfolding_all rfl)) (by first | rfl | decide | with_unfolding_all rfl) (fun s₁ IC => ?_) rfl rfl rfl
  obtain ⟨h₁, tk₁, rfl⟩ := IC.toInCall.same
  have k : ∀ b o, s.heap.get? b = some o → h₁.get? b = some o := IC.toInCall.keep
  have hn := IC.toInCall.ns
  have X₁ : K.In h₁ := X.keeps k
  have hx₁ := k _ _ hx
  show wpAny _ _ (execs _ _) _ _ _
  refine wpAny_execs_cons (plainObj_wpAny_Assign_Attribute ?_)
  refine ldC (v := v) hn (by first | rfl | with_unfolding_all rfl | kernel_rfl) (ldC (v := .ref x) hn (by first | rfl | with_unfolding_all rfl | kernel_rfl) ?_)
  refine set_plain X₁ (ox := excO C t0) (od := none) ⟨hx₁, rfl, rfl, trivial⟩ T.sa ?_
  refine lk_osa X₁ hx₁ hcl rfl rfl T.noN (fun h₃ tk₃ dx k₃ dn dne hx₃ hn₃ => ?_)
  show wpAny _ _ (execs _ _) _ _ _
  have z : s.heap.objs.size < h₁.objs.size := hn.lt
  exact wpAny_execs_nil (hq h₃ tk₃ dx ⟨fun b o hb e => k₃ b o hb (k b o e), hx₃, Nat.le_of_lt (Nat.lt_of_lt_of_le z dn), dne, hn₃⟩)
theorem lk_made (T : LkTxt K mg cn q1n C fI) {v : Value} (X : K.In s.heap) (hlim : s.heap.NoLimit) (hroom : A.depth + 1 < recursionLimit)
    (hq : ∀ h' tk e d, MadeLk s.heap h' e C d v → R (.ok (.ret (.ref e))) { s with heap := h', toks := tk }) :
    codeAny (model prog w) A (.call (.ref C) ⟨[v], []⟩) R s := by
  obtain ⟨nm, q, N, bs, sn, sub, ab, col, dd, k0, k1, k2, k3, k5, hC⟩ := T.cls
  obtain ⟨hp, g, dr, tk, os⟩ := s
  have k : ∀ b o, hp.get? b = some o → ((hp.push (kdv_tup [v])).push (excO C hp.objs.size)).get? b = some o := fun b o e => Heap.get?_push_of_some _ (Heap.get?_push_of_some _ e)
  have hget : ((hp.push (kdv_tup [v])).push (excO C hp.objs.size)).get? (hp.objs.size + 1) = some (excO C hp.objs.size) := by heap_get
  have one : [v].length ≤ sizeLine := by
    rw [sizeLine_eq]
    exact (by decide : 1 ≤ 16777216)
  refine call_own F.excBase_LookupError (fun Y => rfl) (X _ _ hC) (looks_findIn X T.iC) (fun self => bind_fn X self T.tC) one ?_
  refine lk_init (s := ⟨(hp.push (kdv_tup [v])).push (excO C hp.objs.size), g, dr, tk, os⟩) T (X.keeps k) (hlim.keeps k) hget ?_ fun h' tk' dx ⟨k', hx, dn, dne, hns⟩ => ?_
  · show A.depth + 1 < recursionLimit
    exact hroom
  · have old : ∀ b o, hp.get? b = some o → h'.get? b = some o := fun b o e => k' b o (Nat.ne_of_lt (Nat.lt_succ_of_lt (Heap.lt_size e))) (k b o e)
    have z : hp.objs.size + 1 + 1 ≤ dx := by
      first
        | (simpa only [Heap.size_push] using dn)
        | exact dn
        | (have q := dn; rw [Heap.size_push, Heap.size_push] at q; exact q)
    exact ⟨rfl, hq h' tk' (hp.objs.size + 1) dx ⟨old, Nat.le_succ _, ⟨_, _, hx, rfl, rfl, rfl, rfl⟩, Nat.le_trans (Nat.le_trans (Nat.le_succ _) (Nat.le_succ _)) z, dne, hns⟩⟩
end
end TrX
set_option Elab.async false
set_option linter.all false
set_option maxRecDepth 100000
set_option maxHeartbeats 2000000
/-! TrX2: the rules over TrX: raise C(e); try .. except (C1, C2, C3) as n, its suite run with the error tracked (the proof goes the way of the library rule for one class, ps_try_as). The part on making an error goes the way of skel/42. -/
namespace TrX
open PySem PySem.Spec PyProof.Rows L2
variable [Tr.Tabbed]
theorem relO_one {v : V} {v' : Value} (r : RelV v v') (f : Str) : RelO (List.lookup f [(fN, v)]) (if f = fN then some v' else none) := by
  by_cases hw : f = fN
  · subst hw
    rw [if_pos rfl]
    have q : List.lookup fN [(fN, v)] = some v := by simp [List.lookup]
    rw [q]
    exact r
  · rw [if_neg hw]
    have qw : (f == fN) = false := by simpa using hw
    have q2 : List.lookup f [(fN, v)] = none := by simp [List.lookup, qw]
    rw [q2]
    trivial
section
variable {X : Cx} {C fI : Addr} {cn q1n : Str}
/-- C(e) -/
def tMkLk (C : Addr) (ta : TA) : L2.St → Hp → XK → Prop := fun σ H Q => ta σ H fun vs H1 => ∃ v, vs = [v] ∧ ∀ d, H1 d = none → Q (.ref C) (some d) (upd H1 d (.xd [(fN, v)]))
theorem pmk_lk {a : Expr} {ta : TA} {p pos : Pos} {k : Nat} (T : LkTxt X.K X.mg cn q1n C fI) (hr : Room k X.A) (ha : PA X [a] ta) (hg : Gl X cn) (hdb : (cn == ("__debug__" : Str)) = false)
    (he : starEach (a :: []) X.env = (false, eval a X.env) :: starEach [] X.env := by rfl) (hpl : (backTo pos (starEach [] X.env)).any (·.1) = false := by rfl) :
    PMk X (.Call (.Name cn p) [a] [] pos) (tMkLk C ta) := by
  intro pins s σ H Q I h
  refine wpAny_Call_Name_kw (ld_glob I hg T.gC ?_ hdb)
  refine PySem.W.callWith_K (h₀ := X.base) I.ok.mod.kin T.kC (thn (ha.run pos pins s σ H _ I h) fun us s1 hh => ?_) he hpl
  obtain ⟨vs, H1, I1, r1, v, ev, q1⟩ := hh
  subst ev
  refine ⟨I1.kIn, ?_⟩
  cases r1 with
  | cons rv rr =>
    cases rr
    show wpAny _ _ (call (.ref C) [_]) _ _ _
    have hlim := I1.nolimit
    obtain ⟨hp, g, dr, tk, os⟩ := s1
    refine wpAny_call (lk_made T I1.kIn hlim (by have := hr.dp; omega) fun h' tk' e d M => ?_)
    show MkP X pins σ Q (.ref e) ⟨h', g, dr, tk', os⟩
    obtain ⟨oe, fv, hoe, hc, hd, hdat, h1⟩ := M.obj
    have hns := M.ns
    obtain ⟨G', g1, g2⟩ := restrict h' fun b => decide (b ≠ e)
    have gk : ∀ b, b ≠ e → G'.get? b = h'.get? b := fun b hb => g1 b (decide_eq_true hb)
    have ge : G'.get? e = none := g2 e (by simp)
    have old : ∀ b o, hp.get? b = some o → G'.get? b = some o := fun b o q => (gk b (Nat.ne_of_lt (Nat.lt_of_lt_of_le (Heap.lt_size q) M.new))).trans (M.keep b o q)
    have ob : ObjOk X.prog X.w (upd H1 d (.xd [(fN, v)])) G' d (.xd [(fN, v)]) := ⟨_, hns.at (fun o q => (gk d M.dne).trans q), fun f => relO_one rv f⟩
    have J : L2.Inv X pins σ (upd H1 d (.xd [(fN, v)])) ⟨G', g, dr, tk', os⟩ := I1.laid (t' := tk') old M.dbig ob
    refine ⟨e, oe, fv, ⟨G', g, dr, tk', os⟩, _, .ref C, some d, rfl, J, fun b o q => ?_, ge, hoe, ⟨hc, hd⟩, hdat, h1, ?_, rfl, I1.bare, raises_own T.exC T.tyC, q1 d (I1.hok.fresh M.dbig)⟩
    · by_cases hb : b = e
      · have q' : G'.get? b = some o := q
        rw [hb, ge] at q'; cases q'
      · exact (gk b hb).symm.trans q
    · rw [upd_ne (Ne.symm M.dne)]
      exact I1.hok.fresh M.new
end
/-! ### an error that is kept -/
/-- at a: an error of the class cls, with the dict d -/
def exK (a : Addr) (cls : Value) (d : Option Addr) : HO := .ext fun h => ∃ (oe : Obj) (vs : Array Value), h.get? a = some oe ∧ Zc cls d oe ∧ oe.data = .fields vs
theorem exK_ok {P : Program} {w : World} {H : Hp} {h : Heap} {a : Addr} {cls : Value} {d : Option Addr} {oe : Obj} {vs : Array Value} (e : h.get? a = some oe) (z : Zc cls d oe) (hd : oe.data = .fields vs) : ObjOk P w H h a (exK a cls d) :=
  ⟨⟨oe, vs, e, z, hd⟩, ⟨oe, e⟩, fun _ _ ⟨o, v, q, r⟩ k => ⟨o, v, k o q, r⟩⟩
theorem exK_at {P : Program} {w : World} {H : Hp} {h : Heap} {a : Addr} {cls : Value} {d : Option Addr} (hok : HOk P w H h) (e : H a = some (exK a cls d)) : ∃ (oe : Obj) (vs : Array Value), h.get? a = some oe ∧ Zc cls d oe ∧ oe.data = .fields vs := by
  have x : ObjOk P w H h a (.ext fun h => ∃ (oe : Obj) (vs : Array Value), h.get? a = some oe ∧ Zc cls d oe ∧ oe.data = .fields vs) := hok a _ e
  exact x.1
section
variable {X : Cx} {pins : List (Addr × Obj)} {σ : L2.St} {H : Hp} {s : Shared} {a : Addr} {cls : Value} {d : Option Addr} {oe : Obj} {vs : Array Value}
theorem keepExc (I : L2.Inv X pins σ H s) (n0 : X.s_0.heap.get? a = none) (ha : s.heap.get? a = some oe) (hz : Zc cls d oe) (hd : oe.data = .fields vs) (na : H a = none) (nL : a ≠ X.env.locals) (np : ∀ p ∈ X.pn ++ pins, p.1 ≠ a) :
    L2.Inv X pins σ (upd H a (exK a cls d)) s := by
  have ne0 : ∀ b o, X.s_0.heap.get? b = some o → b ≠ a := fun b o e z => by
    rw [z, n0] at e
    cases e
  have ne1 : ∀ b o, H b = some o → b ≠ a := fun b o e => ne_of_none e na
  refine ⟨I.ok, I.os, I.bare, ⟨I.base.keep, I.base.slot, fun b o e n hx => ?_, I.base.there, fun b xs e => ?_, fun b o u e => ?_, fun b ps e => ?_⟩, I.loc, I.cell, ?_, fun x c e => ?_, fun p hp => ?_, fun b u e => ?_, I.len⟩
  · rw [upd_ne (ne0 b o e)]
    exact I.base.free b o e n hx
  · have q := I.base.tups b xs e
    rw [upd_ne (ne1 b _ q)]
    exact q
  · have q := I.base.frzs b o u e
    rw [upd_ne (ne1 b _ q)]
    exact q
  · obtain ⟨m, q⟩ := I.base.tbls b ps e
    exact ⟨m, by rw [upd_ne (ne1 b _ q)]; exact q⟩
  · rw [upd_ne (Ne.symm nL)]
    exact I.free
  · have hc : c ≠ a := fun z => by
      obtain ⟨v, o, ho, hv⟩ := I.cell x c e
      rw [z, ha] at ho
      cases ho
      rw [hd] at hv
      cases hv
    rw [upd_ne hc]
    exact I.freeC x c e
  · obtain ⟨h1, h2, h3, h4, h5⟩ := I.pin p hp
    exact ⟨h1, by rw [upd_ne (np p hp)]; exact h2, h3, h4, h5⟩
  · by_cases hb : b = a
    · subst hb
      rw [upd_same] at e
      cases e
      exact exK_ok ha hz hd
    · rw [upd_ne hb] at e
      exact (I.hok b u e).stay (fun c v _ q => q) (fun c q => by rw [upd_ne (ne1 c _ q)]; exact q) fun c xs q => by rw [upd_ne (ne1 c _ q)]; exact q
/-- into the suite with the error tracked -/
theorem suiteK (I : L2.Inv X pins σ H s) : L2.Inv (X.suite a (X.pn ++ pins)) [] σ H s :=
  ⟨I.ok.suite _ _, I.os, I.bare, I.base, I.loc, I.cell, I.free, I.freeC, fun p hp => I.pin p (by rw [List.append_nil] at hp; exact hp), I.hok, I.len⟩
theorem unsuiteK {pn' : List (Addr × Obj)} (I : L2.Inv (X.suite a (X.pn ++ pins)) pn' σ H s) (ok : X.Ok) : L2.Inv X pins σ H s :=
  ⟨ok, I.os, I.bare, I.base, I.loc, I.cell, I.free, I.freeC, fun p hp => I.pin p (List.mem_append_left _ hp), I.hok, I.len⟩
end
theorem flies_on {base h h' : Heap} {l : List Env} {e : Addr} {Z : Obj → Prop} (f : HandSPX.FlyingZ base l e Z h) (k : ∀ b o, h.get? b = some o → h'.get? b = some o) : HandSPX.FlyingZ base l e Z h' := by
  obtain ⟨f1, f2, f3, oe, vs, T, oT, ts, he, hz, hd, h1, hn, hne, hT, hdT, h3⟩ := f
  exact ⟨fun b o q => k b o (f1 b o q), f2, f3.of_keeps fun b o q _ => ⟨o, k b o q, rfl⟩, oe, vs, T, oT, ts, k _ _ he, hz, hd, h1, hn, hne, k _ _ hT, hdT, h3⟩
theorem sky_new {B h : Heap} {l : List Env} {a : Addr} {Z : Obj → Prop} {L : Addr} (x : Sky B l a Z L h) : B.get? a = none := by
  rcases x with ⟨_, n, _⟩ | ⟨_, n, _⟩ | ⟨_, n, _⟩ <;> exact n
/-- what a clause of three classes wishes of an error of the body: it is one of them; the suite runs with it at a, in slot i -/
def wKeep (K : PySem.W.Frag) (cs : List Value) (i : Nat) (ts : Addr → TS) (D : Ends) : WX := fun cls d σ H =>
  PySem.W.exmAny K cls cs = some true ∧ ∀ a, H a = none → ts a { nx := fun σ' H' => D.nx (σ'.set i none) H', rt := D.rt, bk := fun σ' H' => D.bk (σ'.set i none) H', ct := fun σ' H' => D.ct (σ'.set i none) H' } (σ.set i (some (.ref a))) (upd H a (exK a cls d))
section
variable {X : Cx} {x1 x2 x3 n : Str} {c1 c2 c3 : Value} {i : Nat} {body suite : List Stmt} {b₀ : Stmt} {p1 p2 p3 tpos pos pos' : Pos} {kk : Nat} {tb : WX → TS} {ts : Addr → TS}
theorem ld_named {P : Cx} {pins : List (Addr × Obj)} {σ : L2.St} {H : Hp} {s : Shared} {x : Str} {c : Value} {np : Pos} {Q : Value → Shared → Prop} {E : Value → Shared → Prop} (I : L2.Inv P pins σ H s) (hc : Names P x c) (q : Q c s) :
    wpAny (model P.prog P.w) P.A (eval (.Name x np) P.env) Q E s := by
  obtain ⟨hg, hdbg, hm | ⟨hm, hv, hnn⟩⟩ := hc
  · exact ld_glob I hg hm q hdbg
  · exact ld_blt I hg hm hv q hnn hdbg
theorem ps_try3 (hs : X.stack = X.env :: X.outer) (hf : X.env.frame = some X.env.locals) (hex : X.ex = []) (hN : X.N.Nodup) (hi : X.N[i]? = some n) (hln : X.env.kindOf n = some .local) (n1 : Names X x1 c1) (n2 : Names X x2 c2) (n3 : Names X x3 c3)
    (hb : ∀ (W : WX) (pn : List (Addr × Obj)) (xe : Value → Shared → Prop), Takes (X.tr pn xe) W → PassesOwn (model X.prog X.w) X.A X.env xe → PSs (X.tr pn xe) body (tb W))
    (hsu : ∀ (a : Addr) (pn : List (Addr × Obj)), PSs (X.suite a pn) (b₀ :: suite) (ts a)) :
    PS X (.Try body [.ExceptHandler (some (.Tuple [.Name x1 p1, .Name x2 p2, .Name x3 p3] kk tpos)) (some n) (b₀ :: suite) pos'] [] [] pos) (fun D σ H => tb (wKeep X.K [c1, c2, c3] i ts D) D σ H) := by
  refine ⟨fun pins s σ H D II hw => ?_⟩
  have okX := II.ok
  have frm : X.A.frames = some (X.env :: X.outer) := by rw [okX.frames, hs]
  have locn : Loc X.env.scope n := .inl hln
  refine wpAny_Try_except ?_
  refine wpAny_mono ((hb (wKeep X.K [c1, c2, c3] i ts D) (X.pn ++ pins) (fun e s₁ => wpAny (model X.prog X.w) X.A (noteFrame e X.env) (fun _ s₂ => wpAny (model X.prog X.w) X.A (setFlight e none) (fun _ s₃ =>
    wpAny (model X.prog X.w) X.A (handleBy e X.env [.ExceptHandler (some (.Tuple [.Name x1 p1, .Name x2 p2, .Name x3 p3] kk tpos)) (some n) (b₀ :: suite) pos']) (SP X pins D) X.xe s₃) X.xe s₂) X.xe s₁) (fun u s' xx => ?_) PassesOwn.looking).run [] s σ H D (II.toTry _) hw) (fun fl s1 done => ?_) (fun e s1 he => he)
  · obtain ⟨a, B, sI, pins', σ', H', cls, d, rfl, I', nb, up, sky, na, os, ag, hex1, hyes⟩ := xx
    have I0 : L2.Inv X pins σ' H' sI := I'.ofTry okX
    have skyB : Sky B (X.env :: X.outer) a (Zc cls d) X.env.locals s'.heap := by rw [← hs]; exact sky
    have freshB : B.get? a = none := sky_new skyB
    show wpAny (model X.prog X.w) X.A (noteFrame (.ref a) X.env) _ _ _
    refine Sky.land Zc.steady frm hf skyB fun hA flyA upA => ?_
    have IA : L2.Inv X pins σ' H' { s' with heap := hA } := I0.landed nb flyA.1 (up.trans upA) os ag
    obtain ⟨ob, fv, hob, zob, dob⟩ := flyA.there
    have offFr : a ∉ frs (X.env :: X.outer) := fun hm => by
      obtain ⟨_, o', e', hnf⟩ := flyA.2.2.1.mem hm
      rw [hob] at e'; cases e'
      exact hnf _ dob
    have offL : a ≠ X.env.locals := fun z => offFr (List.mem_filterMap.mpr ⟨X.env, List.mem_cons_self, by rw [hf, z]⟩)
    have freshI : sI.heap.get? a = none := by
      cases e : sI.heap.get? a with
      | none => rfl
      | some o =>
        have q := nb a o e (by rw [hs]; exact offFr)
        rw [freshB] at q
        cases q
    have fresh0 : X.s_0.heap.get? a = none := by
      cases e : X.s_0.heap.get? a with
      | none => rfl
      | some o =>
        obtain ⟨o', q⟩ := I0.base.there a o e (by rw [hex]; exact fun z => nomatch z)
        rw [freshI] at q
        cases q
    have offP : ∀ p ∈ X.pn ++ pins, p.1 ≠ a := fun p hp z => by
      have q := (I0.pin p hp).1
      rw [z, freshI] at q
      cases q
    have MA : L2.Inv (X.suite a (X.pn ++ pins)) [] σ' H' { s' with heap := hA } := suiteK IA
    refine wpAny_handleBy_cons (codeAny_handlers_test ?_) (by intro q; cases q)
    refine wpAny_Tuple ?_
    refine wpAny_items_cons (ld_named MA n1 ?_)
    refine wpAny_items_cons (ld_named MA n2 ?_)
    refine wpAny_items_cons (ld_named MA n3 ?_)
    refine wpAny_items_nil ⟨by size_fits, ?_⟩
    have kpt : ∀ q o, hA.get? q = some o → (hA.push { cls := .type "tuple", data := .seq [c1, c2, c3].toArray }).get? q = some o := fun _ _ z => Heap.get?_push_of_some _ z
    have LTy : PySem.W.Looks (model X.prog X.w) (hA.push { cls := .type "tuple", data := .seq [c1, c2, c3].toArray }) (typeOf (.ref a)) cls := fun A Q E s k q => wpAny_typeOf_ref (k _ _ (kpt _ _ hob)) (by rw [zob.1]; exact q)
    have LMa := PySem.W.exm_tup3 (M := model X.prog X.w) (e := a) ((IA.kIn).keeps kpt) LTy (Heap.get?_push_size hA rfl) hex1
    refine LMa.here ?_
    have flyB := flies_on flyA kpt
    refine codeAny_handlers_suite_as ?_
    refine HandSPX.lands_againZ flyB fun hB flyC upB => ?_
    have IB : L2.Inv X pins σ' H' { s' with heap := hB } := I0.landed nb flyC.1 ((up.trans upA).trans ((Heap.UpToSlots.of_keeps kpt).trans upB)) os ag
    obtain ⟨oc, gv, hoc, zoc, doc⟩ := flyC.there
    have MB : L2.Inv (X.suite a (X.pn ++ pins)) [] σ' (upd H' a (exK a cls d)) { s' with heap := hB } := suiteK (keepExc IB fresh0 hoc zoc doc na offL offP)
    refine store_ok (X := X.suite a (X.pn ++ pins)) (v := .ref a) MB hN hi locn rfl (fun t5 M5 => ?_) (.inr hln)
    refine wpAny_mono ((hsu a (X.pn ++ pins)).run [] t5 _ (upd H' a (exK a cls d)) _ M5 (hyes a na)) (fun fl t6 done => ?_) (fun _ _ z => False.elim z)
    have goes : ∀ {σ6 : L2.St} {H6 : Hp} {Q : Shared → Prop}, L2.Inv (X.suite a (X.pn ++ pins)) [] σ6 H6 t6 → (∀ t7, L2.Inv X pins (σ6.set i none) H6 t7 → Q t7) →
        wpAny (model X.prog X.w) X.A (do bindName X.env n .none; unbindBehindTheSuite X.env n pos') (fun _ t7 => Q t7) X.xe t6 := fun {σ6 H6 Q} M6 hgo => gone_ok (unsuiteK M6 okX) hN hi hln hgo
    cases fl with
    | next =>
      obtain ⟨σ6, H6, M6, fin6⟩ := done
      exact goes M6 fun t7 I7 => ⟨_, _, I7, fin6⟩
    | brk =>
      obtain ⟨σ6, H6, M6, fin6⟩ := done
      exact goes M6 fun t7 I7 => ⟨_, _, I7, fin6⟩
    | cont =>
      obtain ⟨σ6, H6, M6, fin6⟩ := done
      exact goes M6 fun t7 I7 => ⟨_, _, I7, fin6⟩
    | ret u =>
      obtain ⟨v6, σ6, H6, M6, r6, fin6⟩ := done
      exact goes M6 fun t7 I7 => ⟨_, _, _, I7, r6, fin6⟩
  · cases fl with
    | next =>
      obtain ⟨σ', H', I', q⟩ := done
      exact wpAny_execs_nil ⟨σ', H', I'.ofTry okX, q⟩
    | brk =>
      obtain ⟨σ', H', I', q⟩ := done
      exact ⟨σ', H', I'.ofTry okX, q⟩
    | cont =>
      obtain ⟨σ', H', I', q⟩ := done
      exact ⟨σ', H', I'.ofTry okX, q⟩
    | ret u =>
      obtain ⟨v, σ', H', I', r, q⟩ := done
      exact ⟨v, σ', H', I'.ofTry okX, r, q⟩
end
end TrX
set_option Elab.async false
set_option linter.all false
set_option maxRecDepth 100000
set_option maxHeartbeats 2000000
/-! TrX3: isinstance of a kept error, its field -/
namespace TrX
open PySem PySem.Spec PyProof.Rows L2
variable [Tr.Tabbed]
section
variable {X : Cx} {C fI : Addr} {cn q1n : Str}
theorem instK {P : Program} {w : World} {H : Hp} {h : Heap} {a dx : Addr} {fs : List (Str × V)} (hok : HOk P w H h) (ea : H a = some (exK a (.ref C) (some dx))) (ed : H dx = some (.xd fs)) :
    ∃ (ox od : Obj) (mA : Str → Option Value), PySem.W.InstAt h a ox C (some od) ∧ (∀ name, PySem.W.lookIn name od = some (mA name)) ∧ ∀ f, RelO (fs.lookup f) (mA f) := by
  obtain ⟨oe, vs, he, hz, hd⟩ := exK_at hok ea
  have hx : ObjOk P w H h dx (.xd fs) := hok dx _ ed
  obtain ⟨mA, hns, hr⟩ := hx
  obtain ⟨od, ho, hl⟩ := lookIn_ns hns
  exact ⟨oe, od, mA, ⟨he, hz.1, by unfold PySem.W.notCls; rw [hd], by rw [hz.2]; exact ho⟩, hl, hr⟩
/-- isinstance(e, c) -/
def rIsX (K : PySem.W.Frag) (C : Addr) : List V → Hp → VK → Prop := fun xs H Q => ∃ (a dx : Addr) (fs : List (Str × V)) (c : V) (cv : Value) (b : Bool), xs = [.ref a, c] ∧ H a = some (exK a (.ref C) (some dx)) ∧ H dx = some (.xd fs) ∧ ClsV c cv ∧ PySem.W.kitOne K (.ref C) cv = some b ∧ Q (.bl b) H
/-- isinstance(e, (c1, c2, ..)) -/
def rIsXT (K : PySem.W.Frag) (C : Addr) : List V → Hp → VK → Prop := fun xs H Q => ∃ (a dx tp : Addr) (fs : List (Str × V)) (cs : List V) (us : List Value) (b : Bool), xs = [.ref a, .ref tp] ∧ H a = some (exK a (.ref C) (some dx)) ∧ H dx = some (.xd fs) ∧ H tp = some (.tup cs) ∧ Paired ClsV cs us ∧ PySem.W.kitAny K (.ref C) us = some b ∧ Q (.bl b) H
theorem LkTxt.isCls {K : PySem.W.Frag} {mg : Str → Option Value} (T : LkTxt K mg cn q1n C fI) : (PySem.W.clsIn K C).isSome = true := by
  obtain ⟨nm, q, N, bs, sn, sub, ab, col, dd, k0, k1, k2, k3, k5, hC⟩ := T.cls
  unfold PySem.W.clsIn
  rw [hC] <;> rfl
theorem call_isX (T : LkTxt X.K X.mg cn q1n C fI) : CallR X (.builtin "isinstance") (rIsX X.K C) := by
  intro pins s σ H xs us Q I r h
  obtain ⟨a, dx, fs, c, cv, b, rfl, ea, ed, hc, e, q⟩ := h
  obtain ⟨u1, u2, rfl, r1, r2⟩ := vals2 r
  have e2 := hc.eq r2
  subst e2
  cases (show u1 = Value.ref a from r1)
  obtain ⟨ox, od, mA, J, _, _⟩ := instK I.hok ea ed
  have KX : PySem.W.KitX X.K (.ref a) (.ref C) (fun h => PySem.W.InstAt h a ox C (some od)) := PySem.W.kitx_exc T.isCls T.ga T.gg T.exC T.cC T.cG T.cT T.cM
  exact PySem.W.kia_one KX I.kIn J e (fun z => nomatch z) fun tk => ⟨.bl b, H, I.tok tk, rfl, q⟩
theorem call_isXT (T : LkTxt X.K X.mg cn q1n C fI) : CallR X (.builtin "isinstance") (rIsXT X.K C) := by
  intro pins s σ H xs us Q I r h
  obtain ⟨a, dx, tp, fs, cs, ws, b, rfl, ea, ed, hT, k, e, q⟩ := h
  obtain ⟨u1, u2, rfl, r1, r2⟩ := vals2 r
  cases (show u1 = Value.ref a from r1)
  cases (show u2 = Value.ref tp from r2)
  obtain ⟨ox, od, mA, J, _, _⟩ := instK I.hok ea ed
  have KX : PySem.W.KitX X.K (.ref a) (.ref C) (fun h => PySem.W.InstAt h a ox C (some od)) := PySem.W.kitx_exc T.isCls T.ga T.gg T.exC T.cC T.cG T.cT T.cM
  obtain ⟨_, its, rv, o, h1, h2, n, h3⟩ := (show ObjOk X.prog X.w H s.heap tp (.tup cs) from I.hok tp _ hT)
  have e3 := ClsV.all k rv
  subst e3
  obtain ⟨oc, odd, dt, sl⟩ := o
  simp only at h2 h3
  subst h2 h3
  exact PySem.W.kia_tup KX I.kIn J h1 e (fun z => nomatch z) fun tk => ⟨.bl b, H, I.tok tk, rfl, q⟩
/-- e.name of a kept error -/
def tFld (C : Addr) (te : TE) : TE := fun σ H Q => te σ H fun x H1 => ∃ (a dx : Addr) (fs : List (Str × V)) (v : V), x = .ref a ∧ H1 a = some (exK a (.ref C) (some dx)) ∧ H1 dx = some (.xd fs) ∧ fs.lookup fN = some v ∧ Q v H1
theorem pe_fld {e : Expr} {te : TE} {pos : Pos} (T : LkTxt X.K X.mg cn q1n C fI) (he : PE X e te) (hb : attributeBase e fN X.env (eval e X.env) = eval e X.env := by rfl) : PE X (.Attribute e fN pos) (tFld C te) := by
  refine ⟨fun pins s σ H Q I h => ?_⟩
  refine attr_of hb (thn (he.run pins s σ H _ I h) fun u s1 hh => ?_)
  obtain ⟨x, H1, I1, rx, a, dx, fs, v, ex, ea, ed, l, q⟩ := hh
  subst ex
  obtain rfl : u = Value.ref a := rx
  obtain ⟨ox, od, mA, J, hl, hr⟩ := instK I1.hok ea ed
  obtain ⟨u, hu, ru⟩ := RelO.some_of (v := v) (o := mA fN) (by rw [← l]; exact hr fN)
  exact HandSPX.exc_get I1.kIn J T.ga T.gg T.exC (PySem.W.findObj_own T.hdC T.noN rfl (by rw [hl, hu])) (handed_of ru) ⟨v, H1, I1.tok _, ru, q⟩
end
end TrX
set_option Elab.async false
set_option linter.all false
set_option maxRecDepth 100000
set_option maxHeartbeats 4000000
namespace K04
open PySem PySem.Spec PyProof.Rows L2 Tr TrX
variable [Tabbed]
local macro_rules | `(tactic| walk_at "tr") => `(tactic| simp only [wRet, wRetN, wExpr, wAsg, wSet, wSetN, wPar, wParV0, wParN0, wAugI, wgNil, wgCons, wCall, wCall0, wCallM, wCallN, wIxO, wFn, wFn1, wFnN, wTuple1, wAppend, wPopAt, wSetO, wNeO, wIsN, wTup, wLst, wYes, wRep, wSliceL, wSliceT, wRev, wRevT, wIsLT, wMinT, wCallRev, ownAt, asInt, asNat, asList, asTuple, someOf, at0, at1, at2, at3, wIf, wB, wOp, wOpN, wName, wLook, wN, wC, wAnd, wOr, wNot, wAndV, wOrV, wNotV, wSeq, wNext, wIfS, wNil, wCons, wPart, wgSeq, gvName, wTurn, wipeE, gI, gI0, gEq, gNe, gLen, gIx, gInt, gAbs, gMin2, gList, gTup1, gAll, gCatL, gCatT, isNone, startE, startM, List.map_cons, List.map_nil, List.length_cons, List.length_nil, List.cons_append, List.nil_append, List.getElem?_cons_zero, List.getElem?_cons_succ, List.set_cons_zero, List.set_cons_succ, List.replicate, List.length_map, if_true, if_false, Bool.false_eq_true, reduceIte, List.mem_cons, List.not_mem_nil, or_false, forall_eq, forall_eq_or_imp, false_implies, implies_true, true_and, and_true, Option.bind_some, Option.map_some, Option.map_none, Int.reduceLT, Int.reduceLE, Int.reduceToNat, Int.toNat_zero, Int.toNat_one, Int.toNat_natCast, Nat.reduceAdd, Nat.reduceLT, decide_true, List.set, Int.add_zero, Int.zero_add])
theorem ps_nox {X : Cx} {st : Stmt} {t : TS} (h : PS X.nox st t) : PS X st t := ⟨fun pins s σ H D I hw =>
  wpAny_mono (h.run pins s σ H D (I.wish _) hw) (fun _ _ q => q.unwish) fun _ _ z => False.elim z⟩
theorem pos_if {c : Bool} {Y N : Prop} (hc : c = true) (h : Y) : if c = true then Y else N := by
  rw [if_pos hc]
  exact h
theorem pss_dead {X : Cx} {st : List Stmt} : PSs X st (fun _ _ _ => False) := ⟨fun _ _ _ _ _ _ h => h.elim⟩
theorem mix_cons {X : Cx} {st : Stmt} {rest : List Stmt} {t u : TS} {w : WS} {F : Fm} {ρ : En} {N : Nd} {σ : L2.St} {S H : Hp} {D : Ends} (h : SV X.nox st t w) (h2 : PSs X rest u) (R : Rep X.K F S H σ ρ) (hw : w ρ N) (T : Tie X.K F S N { D with nx := u D }) :
    ∃ t', PSs X (st :: rest) t' ∧ t' D σ H := ⟨_, pss_cons (ps_nox h.ps) h2, h.sd F ρ N σ S H _ hw R T⟩
/-- what the classes are -/
structure Exs (K : PySem.W.Frag) (mg : Str → Option Value) where
  C : Addr
  fI : Addr
  C1 : Addr
  C2 : Addr
  low : LkTxt K mg "NoLib" "NoLib.__init__" C fI
  g1 : mg "NoDoor" = some (.ref C1)
  g2 : mg "NoUse" = some (.ref C2)
  exm : PySem.W.exmAny K (.ref C) [.ref C1, .ref C, .ref C2] = some true
  kit : PySem.W.kitAny K (.ref C) [.ref C1, .ref C2] = some false
section
variable {P : Program} {w : World} {K : PySem.W.Frag} {mg : Str → Option Value} {base : Heap}
def xErr (x : Str) : HO := .xd [(fN, .str x)]
/-- no library has the name: NoLib leaves -/
def spNo (K : PySem.W.Frag) (C : Addr) : Sp := fun vs H _ E => ∃ (S : Hp) (b : Bool) (p : Plot) (x : Str) (v : V), vs = [v, .str x] ∧ Same S H ∧ Found S H ∧ Dq K S v (plotT b p) ∧ Fine p ∧ okS x ∧ (∀ l ∈ p.libs, l.own ≠ x) ∧
  ∀ (d : Addr) (H' : Hp), H d = none → Left H H' → H' d = some (xErr x) → E (.ref C) (some d) H'
theorem no_named (T : Top K mg) (Z : Exs K mg) : FnOk P w K mg base (L2.CX P w) 1 T.a_lib_named T.d_lib_named ["program", "name"] (spNo K Z.C) := by
  refine T.F_lib_named.okX sc_lib_named (fun vs H Q E h => ?_) (fun cdv A outer s H vs Q E hr h => ?_)
  · obtain ⟨S, b, p, x, v, rfl, _⟩ := h
    rfl
  · obtain ⟨S, b, p, x, v, rfl, sm, fo, hv, hp, hx, no, q⟩ := h
    have nd := sc_lib_named.nd
    have hu := hr.units
    have hd : DqAll K S [v, .str x] [plotT b p, .str x] := .cons hv (.cons (.str x) .nil)
    have R := rep_start (K := K) N_lib_named sm fo hd
    refine mix_cons (N := { nx := fun ρ' => ∃ t, ρ' = [.val (plotT b p), .val (.str x), t], rt := fun _ _ => False })
      (sv_for (ev_ix (ev_name 0) ev_int) (gv_name 2 nd) (svs_one (sv_if (et_eq hu (ev_ix (ev_name 2) ev_int) (ev_name 1)) (svs_one (sv_ret (ev_name 2))) svs_nil)) PassesOwn.never rfl)
      (pss_one (ps_raise rfl (takes_of rfl rfl rfl rfl) (pmk_lk Z.low hr (pa_cons (pv 1) pa_nil) rfl (by decide)))) R ?_ ⟨fun ρ' σ' S' H' h R' s' => ?_, fun _ _ _ _ _ _ h _ _ _ => h.elim, fun _ _ _ _ h _ _ => h.elim, fun _ _ _ _ h _ _ => h.elim, fun _ _ _ _ _ _ _ h _ _ _ _ => h.elim⟩
    · have key : ∀ (k : Nat) (m : Lib), p.libs[k]? = some m → m.own ≠ x := fun k m hm => no m (List.mem_of_getElem? hm)
      cases b
      · simp only [plotT, seqOf]
        walk_at "tr"
        unfold wFor
        refine ⟨false, ?_⟩
        walk_at "tr"
        refine ⟨p.libs.map (libT false), rfl, fun k ρ => ∃ t, ρ = [.val (plotT false p), .val (.str x), t], ⟨_, rfl⟩, fun k y ρ hy hI => ?_, fun ρ hI => hI⟩
        obtain ⟨t, rfl⟩ := hI
        obtain ⟨m, rfl, hm⟩ : ∃ m : Lib, y = libT false m ∧ p.libs[k]? = some m := by
          rw [List.getElem?_map] at hy
          cases e : p.libs[k]? with
          | none => rw [e] at hy; cases hy
          | some m => rw [e] at hy; exact ⟨m, (Option.some.inj hy).symm, rfl⟩
        have om := (hp.1 m (List.mem_of_getElem? hm)).own
        refine Tr.Later.now ?_
        walk_at "tr"
        simp only [libT, seqOf]
        walk_at "tr"
        refine ⟨shaped_str om, shaped_str hx, ?_⟩
        rw [eqv_str, if_neg (by simp [key k m hm])]
        refine Tr.Later.now ?_
        walk_at "tr"
        exact ⟨_, rfl⟩
      · simp only [plotT, seqOf]
        walk_at "tr"
        unfold wFor
        refine ⟨true, ?_⟩
        walk_at "tr"
        refine ⟨p.libs.map (libT true), rfl, fun k ρ => ∃ t, ρ = [.val (plotT true p), .val (.str x), t], ⟨_, rfl⟩, fun k y ρ hy hI => ?_, fun ρ hI => hI⟩
        obtain ⟨t, rfl⟩ := hI
        obtain ⟨m, rfl, hm⟩ : ∃ m : Lib, y = libT true m ∧ p.libs[k]? = some m := by
          rw [List.getElem?_map] at hy
          cases e : p.libs[k]? with
          | none => rw [e] at hy; cases hy
          | some m => rw [e] at hy; exact ⟨m, (Option.some.inj hy).symm, rfl⟩
        have om := (hp.1 m (List.mem_of_getElem? hm)).own
        refine Tr.Later.now ?_
        walk_at "tr"
        simp only [libT, seqOf]
        walk_at "tr"
        refine ⟨shaped_str om, shaped_str hx, ?_⟩
        rw [eqv_str, if_neg (by simp [key k m hm])]
        refine Tr.Later.now ?_
        walk_at "tr"
        exact ⟨_, rfl⟩
    · obtain ⟨t, rfl⟩ := h
      obtain ⟨u, e1, e2⟩ := R'.at_ 1 (.str x) rfl
      cases e2
      have kp : Left H H' := ⟨fun b o nt e => R'.keep b o e nt, R'.tok⟩
      exact ⟨_, e1, _, rfl, fun d hd' => q d _ (R'.h0 hd') (kp.trans (Left.of (same_new hd') R'.tok)) upd_same⟩
/-- gives, where no library has the name -/
def spNoG (K : PySem.W.Frag) (C : Addr) : Sp := fun vs H _ E => ∃ (S : Hp) (b : Bool) (p : Plot) (x : Str) (v u : V) (sym ver : Str) (c f : Bool), vs = [v, .str x, u] ∧ Same S H ∧ Found S H ∧ Dq K S v (plotT b p) ∧ Dq K S u (seqOf c [.str sym, .str ver, .bool f]) ∧ Fine p ∧ okS x ∧ (∀ l ∈ p.libs, l.own ≠ x) ∧
  ∀ (d : Addr) (H' : Hp), H d = none → Left H H' → H' d = some (xErr x) → E (.ref C) (some d) H'
theorem no_serving (T : Top K mg) (Z : Exs K mg) : FnOk P w K mg base (L2.CX P w) 2 T.a_serving T.d_serving ["program", "name", "use"] (spNoG K Z.C) := by
  refine T.F_serving.okX sc_serving (fun vs H Q E h => ?_) (fun cdv A outer s H vs Q E hr h => ?_)
  · obtain ⟨S, b, p, x, v, u, sym, ver, c, f, rfl, _⟩ := h
    rfl
  · obtain ⟨S, b, p, x, v, u, sym, ver, c, f, rfl, sm, fo, hv, hu', hp, hx, no, q⟩ := h
    have nd := sc_serving.nd
    have hu := hr.units
    have hd : DqAll K S [v, .str x, u] [plotT b p, .str x, seqOf c [.str sym, .str ver, .bool f]] := .cons hv (.cons (.str x) (.cons hu' .nil))
    have R := rep_start (K := K) N_serving sm fo hd
    refine mix_cons (N := { nx := fun ρ' => ∃ r, ρ' = .val (plotT b p) :: .val (.str x) :: r, rt := fun _ _ => False })
      (sv_asg (ev_name 2) (gv_seq rfl (gvs_cons (gv_name 3 nd) (gvs_cons (gv_name 4 nd) (gvs_cons (gv_name 5 nd) gvs_nil)))))
      (pss_cons (ps_set (i := 6) nd rfl (Or.inl rfl) (pe_ix ix_seq (pe_callS (no_named T Z) (hr.mono (by decide)) rfl T.m_lib_named T.F_lib_named.kp T.B_lib_named (fun σ => passAt (takes_of rfl rfl rfl rfl) σ) (pa_cons (pv 0) (pa_cons (pv 1) pa_nil))) pe_int (by intro _ _; rfl))) pss_dead)
      R ?_ ⟨fun ρ' σ' S' H' h R' s' => ?_, fun _ _ _ _ _ _ h _ _ _ => h.elim, fun _ _ _ _ h _ _ => h.elim, fun _ _ _ _ h _ _ => h.elim, fun _ _ _ _ _ _ _ h _ _ _ _ => h.elim⟩
    · refine wg_seq (n := 3) c rfl ?_
      walk_at "tr"
      exact ⟨_, rfl⟩
    · obtain ⟨r, rfl⟩ := h
      obtain ⟨v0, e1, e2⟩ := R'.at_ 0 _ rfl
      obtain ⟨v1, e3, e4⟩ := R'.at_ 1 (.str x) rfl
      cases e4
      have kp : Left H H' := ⟨fun b o nt e => R'.keep b o e nt, R'.tok⟩
      exact ⟨_, e1, _, e3, S', b, p, x, v0, rfl, R'.sub, R'.found, e2, hp, hx, no, fun d H2 hd' s2 e => q d H2 (R'.h0 hd') (kp.trans s2) e⟩
theorem no_gives (T : Top K mg) (Z : Exs K mg) : FnOk P w K mg base (L2.CX P w) 3 T.a_gives T.d_gives ["program", "name", "use"] (spNoG K Z.C) := by
  refine T.F_gives.okX sc_gives (fun vs H Q E h => ?_) (fun cdv A outer s H vs Q E hr h => ?_)
  · obtain ⟨S, b, p, x, v, u, sym, ver, c, f, rfl, _⟩ := h
    rfl
  · obtain ⟨S, b, p, x, v, u, sym, ver, c, f, rfl, h⟩ := h
    have nd := sc_gives.nd
    refine ⟨_, pss_cons (ps_set (i := 3) nd rfl (Or.inl rfl) (pe_callS (no_serving T Z) (hr.mono (by decide)) rfl T.m_serving T.F_serving.kp T.B_serving (fun σ => passAt (takes_of rfl rfl rfl rfl) σ) (pa_cons (pv 0) (pa_cons (pv 1) (pa_cons (pv 2) pa_nil))))) pss_dead, ?_⟩
    exact ⟨_, rfl, _, rfl, _, rfl, S, b, p, x, v, u, sym, ver, c, f, rfl, h⟩
theorem ok_refused (T : Top K mg) (Z : Exs K mg) : FnOk P w K mg base (L2.CX P w) 4 T.a_refused T.d_refused ["_law_plot", "_law_own"] (spV K 2 tRefused) := by
  refine T.F_refused.okX sc_refused (fun vs H Q E h => spV_len vs H Q E h) (fun cdv A outer s H vs Q E hr h => ?_)
  obtain ⟨S, ds, P', sm, fo, hd, hl, hT, q⟩ := h
  obtain ⟨b, p, x, hp, hx, no, rfl, hq⟩ := hT
  have nd := sc_refused.nd
  refine ⟨_, pss_cons (ps_set (i := 2) nd rfl (Or.inl rfl) pe_non) (pss_cons (ps_try3 (i := 3) (ts := fun _ => tAsg (tVar 3) (gName 2)) rfl rfl rfl nd rfl rfl ⟨rfl, by decide, .inl Z.g1⟩ ⟨rfl, by decide, .inl Z.low.gC⟩ ⟨rfl, by decide, .inl Z.g2⟩
      (fun W pn xe tk _ => pss_one (ps_expr (pe_callS (no_gives T Z) (hr.mono (by decide)) rfl T.m_gives T.F_gives.kp T.B_gives (fun σ => passAt tk σ) (pa_cons (pv 0) (pa_cons (pv 1) (pa_cons (pe_tup (pa_cons pe_str (pa_cons pe_str (pa_cons pe_bl pa_nil)))) pa_nil))))))
      (fun a pn => pss_one (ps_set (i := 2) nd rfl (Or.inl rfl) (pv 3))))
    (pss_one (ps_ret (pe_ifExp (PW.pt (pw_and (pt_val (pe_callB (call_isX Z.low) (by rfl) T.b_isinstance (by decide +kernel) (pa_cons (pv 2) (pa_cons (pe_glob (v := .ref Z.C) rfl Z.low.gC rfl) pa_nil))))
        (pw_and1 (pt_not (pt_val (pe_callB (call_isXT Z.low) (by rfl) T.b_isinstance (by decide +kernel) (pa_cons (pv 2) (pa_cons (pe_tup (pa_cons (pe_glob (v := .ref Z.C1) rfl Z.g1 rfl) (pa_cons (pe_glob (v := .ref Z.C2) rfl Z.g2 rfl) pa_nil))) pa_nil))))))))
      (pe_fld Z.low (pv 2)) pe_non)))), ?_⟩
  have hd' : ∃ v, vs = [v, .str x] ∧ Dq K S v (plotT b p) := by
    cases hd with
    | cons h1 h2 =>
      cases h2 with
      | cons h3 h4 =>
        cases h4
        cases h3
        exact ⟨_, rfl, h1⟩
  obtain ⟨v, rfl, hv⟩ := hd'
  refine ⟨v, rfl, .str x, rfl, (by show 3 ≤ sizeLine; decide), fun tp ht => ?_⟩
  refine ⟨upd S tp (.tup [.str "f", .str "", .bl false]), b, p, x, v, .ref tp, "f", "", true, false, rfl, same_upd2 sm, ⟨fo.tok.same (same_new ht), fun b hb => by
    obtain ⟨ps, z⟩ := fo.tok.tbl hb
    have ne : b ≠ tp := fun y => by rw [y, ht] at z; cases z
    rw [upd_ne ne]
    exact fo.off b hb⟩, dp_mono (same_new (same_none sm ht)) _ v hv, .tup (SqT.of upd_same) (.cons (.str _) (.cons (.str _) (.cons (.bl _) .nil))), hp, hx, no, fun d H' hd' s' e => ?_⟩
  refine ⟨Z.exm, fun a na => ?_⟩
  have da : d ≠ a := ne_of_none e na
  have k1 : PySem.W.kitOne K (.ref Z.C) (.ref Z.C) = some true := by
    unfold PySem.W.kitOne
    rw [if_pos (beq_self_eq_true _)]
  have ed : upd H' a (exK a (.ref Z.C) (some d)) d = some (.xd [(fN, .str x)]) := by
    rw [upd_ne da]
    exact e
  refine ⟨.ref a, rfl, ?_⟩
  refine ⟨.ref a, rfl, a, d, [(fN, .str x)], .ref Z.C, .ref Z.C, true, rfl, upd_same, ed, .own Z.C, k1, true, rfl, ?_⟩
  refine pos_if rfl ?_
  refine ⟨.ref a, rfl, (by show 2 ≤ sizeLine; decide), fun t2 n2 => ?_⟩
  have at2 : a ≠ t2 := ne_of_none upd_same n2
  have dt2 : d ≠ t2 := ne_of_none ed n2
  have ea2 : upd (upd H' a (exK a (.ref Z.C) (some d))) t2 (.tup [.ref Z.C1, .ref Z.C2]) a = some (exK a (.ref Z.C) (some d)) := by
    rw [upd_ne at2]
    exact upd_same
  have ed2 : upd (upd H' a (exK a (.ref Z.C) (some d))) t2 (.tup [.ref Z.C1, .ref Z.C2]) d = some (.xd [(fN, .str x)]) := by
    rw [upd_ne dt2]
    exact ed
  refine ⟨a, d, t2, [(fN, .str x)], [.ref Z.C1, .ref Z.C2], [.ref Z.C1, .ref Z.C2], false, rfl, ea2, ed2, upd_same, .cons (.own _) (.cons (.own _) .nil), Z.kit, false, rfl, ?_⟩
  refine pos_if rfl ?_
  refine ⟨.ref a, rfl, a, d, [(fN, .str x)], .str x, rfl, ea2, ed2, by simp [List.lookup], ?_⟩
  have s4 : Left H (upd (upd H' a (exK a (.ref Z.C) (some d))) t2 (.tup [.ref Z.C1, .ref Z.C2])) := by
    have l1 : Left H H' := (Left.of (same_new ht) fo.tok).trans s'
    have l2 : Left H (upd H' a (exK a (.ref Z.C) (some d))) := l1.trans (Left.of (same_new na) l1.tok)
    exact l2.trans (Left.of (same_new n2) l2.tok)
  have s5 : Same S (upd (upd H' a (exK a (.ref Z.C) (some d))) t2 (.tup [.ref Z.C1, .ref Z.C2])) := fun b o e => s4.at_ b o (fun hb => by rw [fo.off b hb] at e; cases e) (sm b o e)
  exact q (.str x) (.str x) S _ hq (Same.refl S) s5 (fun b h1 h2 => absurd h1 h2) s4 (.str x)
end
end K04
set_option Elab.async false
set_option linter.all false
set_option maxRecDepth 100000
set_option maxHeartbeats 4000000
namespace K04
open PySem PySem.Spec PyProof.Rows L2 Tr
variable [Tabbed]
local macro_rules | `(tactic| walk_at "tr") => `(tactic| simp only [wRet, wRetN, wExpr, wAsg, wSet, wSetN, wPar, wParV0, wParN0, wAugI, wgNil, wgCons, wCall, wCall0, wCallM, wCallN, wIxO, wFn, wFn1, wFnN, wTuple1, wAppend, wPopAt, wSetO, wNeO, wIsN, wTup, wLst, wYes, wRep, wSliceL, wSliceT, wRev, wRevT, wIsLT, wMinT, wCallRev, ownAt, asInt, asNat, asList, asTuple, someOf, at0, at1, at2, at3, wIf, wB, wOp, wOpN, wName, wLook, wN, wC, wAnd, wOr, wNot, wAndV, wOrV, wNotV, wSeq, wNext, wIfS, wNil, wCons, wPart, wgSeq, gvName, wTurn, wipeE, gI, gI0, gEq, gNe, gLen, gIx, gInt, gAbs, gMin2, gList, gTup1, gAll, gCatL, gCatT, isNone, startE, startM, List.map_cons, List.map_nil, List.length_cons, List.length_nil, List.cons_append, List.nil_append, List.getElem?_cons_zero, List.getElem?_cons_succ, List.set_cons_zero, List.set_cons_succ, List.replicate, List.length_map, if_true, if_false, Bool.false_eq_true, reduceIte, List.mem_cons, List.not_mem_nil, or_false, forall_eq, forall_eq_or_imp, false_implies, implies_true, true_and, and_true, Option.bind_some, Option.map_some, Option.map_none, Int.reduceLT, Int.reduceLE, Int.reduceToNat, Int.toNat_zero, Int.toNat_one, Int.toNat_natCast, Nat.reduceAdd, Nat.reduceLT, decide_true, List.set, Int.add_zero, Int.zero_add])
section
variable {P : Program} {w : World} {K : PySem.W.Frag} {mg : Str → Option Value} {base : Heap}
theorem due_ok {l : Lib} {sym ver : Str} (L : l.Ok) (hv : okS ver) : ∀ x, dueOf l.defs sym ver = some x → okS x := fun x h => by
  unfold dueOf at h
  split at h
  · cases h
    exact hv
  · unfold firstFit at h
    obtain ⟨p, hp, rfl⟩ := Option.map_eq_some_iff.mp h
    exact (L.defs.2.1 p (List.mem_of_find?_eq_some hp)).2
theorem told_none : Told (.list [.str "nobody", .str "none"]) := by
  have h : ((PyData.list [.str "nobody", .str "none"]).showable = true ∧ (PyData.list [.str "nobody", .str "none"]).hasDict = false ∧ (PyData.list [.str "nobody", .str "none"]).shown.length ≤ 1000 ∧ (PyData.list [.str "nobody", .str "none"]).depth ≤ 64) ∧ PyData.strOk (PyData.list [.str "nobody", .str "none"]).shown = true := by decide +kernel
  obtain ⟨⟨h1, h2, h3, h4⟩, h5⟩ := h
  exact ⟨⟨h1, h2, Nat.le_trans h3 (by decide), h4⟩, (good_str (n := 0) h5).shaped (by decide)⟩
theorem pool_not : ("nobody" : Str) ∉ pool ∧ ("none" : Str) ∉ pool := by decide +kernel
theorem ok_right (T : Top K mg) (TB : LamX.TabB base mg T.cS T.PS) (okR : FnOk P w K mg base (L2.CX P w) 4 T.a_refused T.d_refused ["_law_plot", "_law_own"] (spV K 2 tRefused)) (bR : Binds K T.d_refused ["_law_plot", "_law_own"] []) :
    FnG P w K mg base 9 T.a_right T.d_right ["_law_box_here"] (spM K 0 tRight) := by
  refine fn_mutG T.F_right sc_right rfl fun c A o s H E hgd hr => ?_
  have nd := sc_right.nd
  have hu := hr.units
  refine ⟨_, _, (svs_cons (sv_if (et_not (et_val (ev_callG0 (ok_length_right T TB) hgd (hr.mono (by decide)) T.m_length_right T.F_length_right.kp T.B_length_right))) (svs_one (sv_ret ev_bl)) svs_nil)
      (svs_cons (sv_forR T.b_range ev_int (gv_name 1 nd) (svs_cons (sv_set 2 nd (ev_callM 0 (ok_program T) (hr.mono (by decide)) T.m_program T.F_program.kp T.B_program (ea_cons ev_int (ea_cons ev_int ea_nil))))
      (svs_cons (sv_set 3 nd (ev_call (ok_lists T 6) (hr.mono (by decide)) T.m_lists T.F_lists.kp T.B_lists (ea_cons (ev_name 2) ea_nil)))
      (svs_cons (sv_for (ev_ix (ev_name 2) ev_int) (gv_name 4 nd) (svs_one (sv_for (ev_tup (ea_cons ev_str (ea_cons ev_str (ea_cons ev_str (ea_cons ev_str ea_nil))))) (gv_name 5 nd) (svs_one (sv_for (ev_tup (ea_cons ev_str (ea_cons ev_str (ea_cons ev_str (ea_cons ev_str ea_nil))))) (gv_name 6 nd) (svs_cons (sv_set 7 nd (ev_tup (ea_cons (ev_name 5) (ea_cons (ev_name 6) (ea_cons (ev_eq hu (ev_callM 0 (ok_take T) (hr.mono (by decide)) T.m_take T.F_take.kp T.B_take (ea_cons ev_int ea_nil)) ev_int) ea_nil)))))
      (svs_cons (sv_set 8 nd (ev_call (ok_due T) (hr.mono (by decide)) T.m_due T.F_due.kp T.B_due (ea_cons (ev_name 4) (ea_cons (ev_name 7) ea_nil))))
      (svs_cons (sv_set 9 nd (en_lst (ea_cons (ev_call (ok_gives T TB) (hr.mono (by decide)) T.m_gives T.F_gives.kp T.B_gives (ea_cons (ev_name 2) (ea_cons (ev_ix (ev_name 4) ev_int) (ea_cons (ev_name 7) ea_nil)))) (ea_cons (ev_namedRev (ok_gives T TB) (hr.mono (by decide)) T.m_gives T.F_gives.kp (kb_gives T) rfl (ek_cons (en_list T.b_list (ea_cons (ev_name 7) ea_nil)).ev (ek_cons (ev_ix (ev_name 4) ev_int) (ek_cons (ev_name 3) ek_nil)))) ea_nil))).ev)
      (svs_one (sv_if (et_not (et_val (ev_callG (ok_same T) hgd (hr.mono (by decide)) T.m_same T.F_same.kp T.B_same (ea_cons (ev_name 9) (ea_cons (en_lst (ea_cons (ev_name 8) (ea_cons (ev_name 8) ea_nil))).ev ea_nil))))) (svs_one (sv_ret ev_bl)) svs_nil))))) PassesOwn.never rfl)) PassesOwn.never rfl)) PassesOwn.never rfl)
      (svs_one (sv_if (et_not (et_val (ev_callG (ok_same T) hgd (hr.mono (by decide)) T.m_same T.F_same.kp T.B_same (ea_cons (en_lst (ea_cons (ev_call okR (hr.mono (by decide)) T.m_refused T.F_refused.kp T.B_refused (ea_cons (ev_name 2) (ea_cons ev_str ea_nil))) (ea_cons (ev_call okR (hr.mono (by decide)) T.m_refused T.F_refused.kp T.B_refused (ea_cons (ev_name 3) (ea_cons ev_str ea_nil))) ea_nil))).ev (ea_cons (en_lst (ea_cons ev_str (ea_cons ev_str ea_nil))).ev ea_nil))))) (svs_one (sv_ret ev_bl)) svs_nil))))) PassesOwn.never rfl)
      (svs_one (sv_ret ev_bl)))), fun cs ds P' hl hT => ?_⟩
  obtain ⟨rfl, hB, q⟩ := hT
  walk_at "tr"
  refine ⟨rfl, ?_⟩
  show (if (!true) = true then _ else _)
  rw [if_neg (by decide)]
  refine Tr.Later.now ?_
  walk_at "tr"
  refine Tr.Later.now ?_
  walk_at "tr"
  unfold wForR
  walk_at "tr"
  refine ⟨by omega, by omega, fun k ρ => ∃ (cs' : List PyData) (t1 t2 t3 t4 t5 t6 t7 t8 t9 : Sl), ρ = [.own true cs', t1, t2, t3, t4, t5, t6, t7, t8, t9] ∧ BoxOk (1000 + 1000 * k) cs', ⟨cs, _, _, _, _, _, _, _, _, _, rfl, hB⟩, fun k ρ hk hI => ?_, fun ρ hI => ?_⟩
  · obtain ⟨cs', t1, t2, t3, t4, t5, t6, t7, t8, t9, rfl, hB'⟩ := hI
    have hk3 : k < 3 := by simpa using hk
    refine Tr.Later.now ?_
    walk_at "tr"
    refine ⟨1000 + 1000 * k, 5, 1, hB', by omega, rfl, by decide, by decide, by decide, by decide, fun p cs1 hp hB1 => ?_⟩
    refine Tr.Later.now ?_
    walk_at "tr"
    refine ⟨plotT true p, plotT false p, rfl, soft_plot p hp, ?_⟩
    refine Tr.Later.now ?_
    walk_at "tr"
    unfold wFor
    refine ⟨true, ?_⟩
    refine ⟨p.libs.map Lib.d, rfl, fun i ρ => ∃ (cs' : List PyData) (u4 u5 u6 u7 u8 u9 : Sl), ρ = [.own true cs', .val (.int k), .val (plotT true p), .val (plotT false p), u4, u5, u6, u7, u8, u9] ∧ BoxOk (1600 + 1000 * k + 16 * i) cs', ⟨cs1, _, _, _, _, _, _, rfl, hB1.mono (by omega)⟩, fun i x ρ hx hI => ?_, fun ρ hI => ?_⟩
    · obtain ⟨cs2, u4, u5, u6, u7, u8, u9, rfl, hB2⟩ := hI
      obtain ⟨l, rfl, hl2⟩ : ∃ l : Lib, x = l.d ∧ p.libs[i]? = some l := by
        rw [List.getElem?_map] at hx
        cases e : p.libs[i]? with
        | none => rw [e] at hx; cases hx
        | some l => rw [e] at hx; exact ⟨l, (Option.some.inj hx).symm, rfl⟩
      have hi10 : i < 10 := by
        have h1 := (List.getElem?_eq_some_iff.mp hl2).1
        have h2 := hp.libs.2.1
        omega
      have L := (hp.libs.1 l (List.mem_of_getElem? hl2)).1
      refine Tr.Later.now ?_
      refine ⟨true, ?_⟩
      refine ⟨by decide, [.str "f", .str "g", .str "h", .str "none"], rfl, fun j ρ => ∃ (cs' : List PyData) (u5 u6 u7 u8 u9 : Sl), ρ = [.own true cs', .val (.int k), .val (plotT true p), .val (plotT false p), .val l.d, u5, u6, u7, u8, u9] ∧ BoxOk (1600 + 1000 * k + 16 * i + 4 * j) cs', ⟨cs2, _, _, _, _, _, rfl, hB2⟩, fun j x ρ hx hI => ?_, fun ρ hI => ?_⟩
      · obtain ⟨cs3, u5, u6, u7, u8, u9, rfl, hB3⟩ := hI
        obtain ⟨sym, rfl, hs⟩ : ∃ a : Str, x = .str a ∧ okS a := by
          have hm := List.mem_of_getElem? hx
          simp only [List.mem_cons, List.not_mem_nil, or_false] at hm
          rcases hm with rfl | rfl | rfl | rfl <;> exact ⟨_, rfl, okS_word (by decide +kernel)⟩
        have hj4 : j < 4 := (List.getElem?_eq_some_iff.mp hx).1
        refine Tr.Later.now ?_
        refine ⟨true, ?_⟩
        refine ⟨by decide, [.str "", .str "a", .str "b", .str "c"], rfl, fun m ρ => ∃ (cs' : List PyData) (u6 u7 u8 u9 : Sl), ρ = [.own true cs', .val (.int k), .val (plotT true p), .val (plotT false p), .val l.d, .val (.str sym), u6, u7, u8, u9] ∧ BoxOk (1600 + 1000 * k + 16 * i + 4 * j + m) cs', ⟨cs3, _, _, _, _, rfl, hB3⟩, fun m x ρ hx hI => ?_, fun ρ hI => ?_⟩
        · obtain ⟨cs4, u6, u7, u8, u9, rfl, hB4⟩ := hI
          obtain ⟨ver, rfl, hv⟩ : ∃ a : Str, x = .str a ∧ okS a := by
            have hm := List.mem_of_getElem? hx
            simp only [List.mem_cons, List.not_mem_nil, or_false] at hm
            rcases hm with rfl | rfl | rfl | rfl <;> exact ⟨_, rfl, okS_word (by decide +kernel)⟩
          have hm4 : m < 4 := (List.getElem?_eq_some_iff.mp hx).1
          refine Tr.Later.now ?_
          walk_at "tr"
          refine Tr.Later.now ?_
          walk_at "tr"
          refine ⟨1600 + 1000 * k + 16 * i + 4 * j + m, 2, hB4, by omega, rfl, by decide, by decide, fun r cs5 hr hB5 => ⟨(good_int (n := 0) _).shaped (by decide), (good_int (n := 0) _).shaped (by decide), by decide, ?_⟩⟩
          generalize (PyData.int (r : Int)).eqv (.int 0) = wk
          refine Tr.Later.now ?_
          walk_at "tr"
          refine ⟨l, sym, ver, wk, L, rfl, hs, hv, ?_⟩
          refine Tr.Later.now ?_
          simp only [Lib.d]
          walk_at "tr"
          have gd : optT (givesOf l.defs sym ver) = optD (dueOf l.defs sym ver) := by rw [gives_due _ _ _ L.defs.1, optT_D]
          refine ⟨true, true, p, l, i, sym, ver, wk, fine_of hp, hl2, hs, hv, rfl, ?_⟩
          refine ⟨false, false, p, l, i, sym, ver, wk, fine_of hp, hl2, hs, hv, rfl, by decide, ?_⟩
          rw [gd]
          refine Tr.Later.now ?_
          walk_at "tr"
          refine ⟨by decide, _, rfl, told_twice (due_ok L hv), ?_⟩
          show (if (!true) = true then _ else _)
          rw [if_neg (by decide)]
          refine Tr.Later.now ?_
          walk_at "tr"
          exact ⟨cs5, _, _, _, _, rfl, hB5⟩
        · obtain ⟨cs4, u6, u7, u8, u9, rfl, hB4⟩ := hI
          exact ⟨cs4, _, _, _, _, _, rfl, hB4.mono (by simp; omega)⟩
      · obtain ⟨cs3, u5, u6, u7, u8, u9, rfl, hB3⟩ := hI
        exact ⟨cs3, _, _, _, _, _, _, rfl, hB3.mono (by simp; omega)⟩
    · obtain ⟨cs2, u4, u5, u6, u7, u8, u9, rfl, hB2⟩ := hI
      dsimp only
      refine Tr.Later.now ?_
      walk_at "tr"
      have no : ∀ x : Str, x ∉ pool → ∀ l ∈ p.libs, l.own ≠ x := fun x hx l hl e => hx (e ▸ (hp.libs.1 l hl).2)
      refine ⟨true, p, "nobody", fine_of hp, okS_word (by decide +kernel), no _ pool_not.1, rfl, ?_⟩
      refine ⟨false, p, "none", fine_of hp, okS_word (by decide +kernel), no _ pool_not.2, rfl, by decide, by decide, _, rfl, told_none, ?_⟩
      show (if (!true) = true then _ else _)
      rw [if_neg (by decide)]
      refine Tr.Later.now ?_
      walk_at "tr"
      exact ⟨cs2, _, _, _, _, _, _, _, _, _, rfl, hB2.mono (by have := hp.libs.2.1; simp; omega)⟩
  · obtain ⟨cs', t1, t2, t3, t4, t5, t6, t7, t8, t9, rfl, hB'⟩ := hI
    refine Tr.Later.now ?_
    walk_at "tr"
    exact q cs' (hB'.mono (by simp))
end
end K04
set_option Elab.async false
set_option linter.all false
set_option maxRecDepth 100000
set_option maxHeartbeats 4000000
namespace K04
open PySem PySem.Spec PyProof.Rows L2 Tr
variable [Tabbed]
local macro_rules | `(tactic| walk_at "tr") => `(tactic| simp only [wRet, wRetN, wExpr, wAsg, wSet, wSetN, wPar, wParV0, wParN0, wAugI, wgNil, wgCons, wCall, wCall0, wCallM, wCallN, wIxO, wFn, wFn1, wFnN, wTuple1, wAppend, wPopAt, wSetO, wNeO, wIsN, wTup, wLst, wYes, wRep, wSliceL, wSliceT, wRev, wRevT, wIsLT, wMinT, wCallRev, ownAt, asInt, asNat, asList, asTuple, someOf, at0, at1, at2, at3, wIf, wB, wOp, wOpN, wName, wLook, wN, wC, wAnd, wOr, wNot, wAndV, wOrV, wNotV, wSeq, wNext, wIfS, wNil, wCons, wPart, wgSeq, gvName, wTurn, wipeE, gI, gI0, gEq, gNe, gLen, gIx, gInt, gAbs, gMin2, gList, gTup1, gAll, gCatL, gCatT, isNone, startE, startM, List.map_cons, List.map_nil, List.length_cons, List.length_nil, List.cons_append, List.nil_append, List.getElem?_cons_zero, List.getElem?_cons_succ, List.set_cons_zero, List.set_cons_succ, List.replicate, List.length_map, if_true, if_false, Bool.false_eq_true, reduceIte, List.mem_cons, List.not_mem_nil, or_false, forall_eq, forall_eq_or_imp, false_implies, implies_true, true_and, and_true, Option.bind_some, Option.map_some, Option.map_none, Int.reduceLT, Int.reduceLE, Int.reduceToNat, Int.toNat_zero, Int.toNat_one, Int.toNat_natCast, Nat.reduceAdd, Nat.reduceLT, decide_true, List.set, Int.add_zero, Int.zero_add])
section
variable {P : Program} {w : World} {K : PySem.W.Frag} {mg : Str → Option Value} {base : Heap}
def tLaw : TSp := fun ds Q => ∃ ns : List Int, ds = [.list (ns.map .int)] ∧ ns.length < 1000 ∧ (∀ n ∈ ns, n.natAbs.log2 < 1048576) ∧ Q (.bool true)
theorem ok_law (T : Top K mg) (okR : FnG P w K mg base 9 T.a_right T.d_right ["_law_box_here"] (spM K 0 tRight)) :
    FnG P w K mg base 10 T.a_law T.d_law ["_law_script"] (spV K 1 tLaw) := by
  refine fn_pureG T.F_law sc_law rfl fun c A o s H E hgd hr => ?_
  have nd := sc_law.nd
  have hu := hr.units
  refine ⟨_, _, (svs_cons (sv_forR T.b_range (ev_add ev_int (ev_min2 rfl T.b_min (ea_cons ev_int (ea_cons (ev_len T.b_len (er_name 0)) ea_nil)))) (gv_name 1 nd) (svs_cons (sv_setN 2 nd (en_call (ok_box T) (hr.mono (by decide)) T.m_box T.F_box.kp T.B_box (ea_cons (ev_name 0) (ea_cons (ev_name 1) ea_nil))))
      (svs_one (sv_if (et_not (et_val (ev_all (cr_all rfl) T.b_all (en_lcR (te := tCall (spM K 0 tRight) [] E0 _) [("_law_time", 3)] T.b_range rfl nd ev_int (blkOk_by (N := N_law) (sc := defScope s_law) (by decide +kernel)) (fun _ _ _ _ _ => (gv_name 3 nd)) (fun _ _ _ _ _ => ets_nil) (fun _ _ _ _ _ => (ev_callMG 2 okR hgd (hr.mono (by decide)) T.m_right T.F_right.kp T.B_right ea_nil)) (by decide)).ev.er))) (svs_one (sv_ret ev_bl)) svs_nil))) PassesOwn.never rfl)
      (svs_one (sv_ret ev_bl))), fun ds P' hl hT => ?_⟩
  obtain ⟨ns, rfl, hn, hb, q⟩ := hT
  walk_at "tr"
  unfold wForR
  walk_at "tr"
  refine ⟨by split <;> omega, by split <;> omega, fun k ρ => ∃ (t1 t2 : Sl), ρ = [.val (.list (ns.map .int)), t1, t2, .un], ⟨_, _, rfl⟩, fun k ρ hk hI => ?_, fun ρ hI => ?_⟩
  · obtain ⟨t1, t2, rfl⟩ := hI
    refine Tr.Later.now ?_
    walk_at "tr"
    have hk2 : k < 100 := by
      split at hk <;> omega
    refine ⟨ns, k, rfl, hk2, fun es hes => ?_⟩
    refine Tr.Later.now ?_
    walk_at "tr"
    unfold wLcR
    walk_at "tr"
    refine ⟨by omega, by omega, fun m acc ρ => ∃ cs : List PyData, acc = List.replicate m (.bool true) ∧ ρ = [.val (.list (ns.map .int)), .val (.int k), .own false cs, .un] ∧ (m = 0 → BoxOk 1000 cs), ⟨es, rfl, rfl, fun _ => hes.mono (by omega)⟩, fun m acc ρ hm hI => ?_, fun acc ρ hI => ?_⟩
    · obtain ⟨cs, rfl, rfl, hB⟩ := hI
      have m0 : m = 0 := by simpa using hm
      subst m0
      walk_at "tr"
      exact ⟨rfl, hB rfl, fun cs' hB' => ⟨by decide, cs', rfl, rfl, fun z => by omega⟩⟩
    · obtain ⟨cs, rfl, rfl, hB⟩ := hI
      refine ⟨[true], rfl, ?_⟩
      show (if (!true) = true then _ else _)
      rw [if_neg (by decide)]
      refine Tr.Later.now ?_
      walk_at "tr"
      exact ⟨_, _, rfl⟩
  · obtain ⟨t1, t2, rfl⟩ := hI
    refine Tr.Later.now ?_
    walk_at "tr"
    exact q
end
end K04
set_option Elab.async false
set_option linter.all false
set_option maxRecDepth 100000
set_option maxHeartbeats 2000000
/-! TrE: the end of a law: its entry, with the tables of code objects, and the bits of the script's numbers -/
namespace Tr
open PySem PySem.Spec PyProof.Rows L2
variable [Tabbed]
/-! ### the law's entry -/
/-- the script alone is known -/
def onlyS (a : Addr) (o : Obj) (xs : List V) : Hp := fun b => if b = a then some (.frz o (.lst xs)) else none
theorem law_entry {P : Program} {w : World} {K : PySem.W.Frag} {mg mb : Str → Option Value} {k : Nat} {fa a : Addr} {fd : FuncData} {x : Str} {sp : Sp} {s : Shared} {vs : List Value} {ns : List Int} (H : Hp)
    (hH : ∀ b, H b = none ∨ (b = a ∧ K.lookup a = none ∧ H b = some (.frz { cls := .type "list", data := .seq vs.toArray } (.lst (ns.map V.int)))) ∨ (Tb b ∧ H b = some (.tbl #[])))
    (hT : ∀ b, Tb b → s.heap.get? b = some (PySem.W.tabObj #[]) ∧ K.lookup b = none ∧ isCodeTable s.heap b)
    (bmain : ∃ bm ob, mg "__builtins__" = some (.ref bm) ∧ bm ≠ builtinsNs ∧ s.heap.get? bm = some ob ∧ ob.cls = .type "module" ∧ ob.dict = some builtinsNs ∧ ob.data = .plain)
    (KX : K.In s.heap) (hns : s.heap.Ns mainGlobals mg) (hb : s.heap.Ns builtinsNs mb) (hbb : ∀ y : Str, y ≠ "__name__" → mb y = bootBuiltins y) (hlim : s.heap.NoLimit) (hg : s.gens = #[])
    (ha : s.heap.get? a = some { cls := .type "list", data := .seq vs.toArray }) (hi : IntsAre vs ns) (hl : ns.length ≤ sizeLine) (hr : Room k callerA)
    (G : ∀ base : Heap, K.In base → base.Ns mainGlobals mg → (∀ b, Tb b → base.BuiltinsAt mg b ∧ mainGlobals ≠ b) → FnG P w K mg base k fa fd [x] sp) (hbind : ∀ (s : Shared) (u : Value), BindsTo s fd ⟨[u], []⟩ [(x, u)]) (hsp : sp [.ref a] H (fun v _ => v = .bl true) E0) :
    codeAny (model P w) callerA (.call (.ref fa) ⟨[.ref a], []⟩) (fun r s' => r = .ok (.ret (.bool true)) ∧ OldK s.heap s'.heap ∧ s'.os = s.os ∧ AllBare s'.gens) s := by
  have free : ∀ b o, s.heap.get? b = some o → (b = a → K.lookup a = none → False) → (Tb b → False) → H b = none := fun b o e no nt => by
    rcases hH b with z | ⟨z1, z2, _⟩ | ⟨z, _⟩
    · exact z
    · exact (no z1 z2).elim
    · exact (nt z).elim
  have hok : HOk P w H s.heap := fun b u e => by
    rcases hH b with z | ⟨z1, z2, z3⟩ | ⟨z1, z2⟩
    · rw [z] at e
      cases e
    · subst z1
      cases z3.symm.trans e
      exact ⟨ha, by rw [List.length_map]; exact hl, vs, _, vals_ints hi, ha⟩
    · cases z2.symm.trans e
      exact (hT b z1).1
  have nsF : ∀ {b : Addr} {m : Str → Option Value}, s.heap.Ns b m → (hidT s.heap H).Ns b m := by
    rintro b m ⟨o, es, ep, e, d, r⟩
    refine ⟨o, es, ep, hidT_get e (free b o e (fun z _ => ?_) fun z => ?_), d, r⟩
    · subst z
      cases ha.symm.trans e
      cases d
    · cases (hT b z).1.symm.trans e
      cases d
  have hKb : K.In (hidT s.heap H) := fun b o e => hidT_get (KX b o e) (free b o (KX b o e) (fun z1 z2 => by
    subst z1
    cases z2.symm.trans e) fun z => by
    cases (hT b z).2.1.symm.trans e)
  have hbt : ∀ b, Tb b → (hidT s.heap H).BuiltinsAt mg b ∧ mainGlobals ≠ b := fun b hb => by
    obtain ⟨bm, ob, m1, m2, m3, m4, m5, m6⟩ := bmain
    have nb : ∀ {c : Addr} {m : Str → Option Value}, s.heap.Ns c m → ∀ {d : Addr} {o : Obj}, s.heap.get? d = some o → (∀ es n, o.data ≠ .dict es n) → d ≠ c := fun {c m} hn {d o} e no z => by
      obtain ⟨o2, es, ep, e2, d2, _⟩ := hn
      subst z
      cases e.symm.trans e2
      exact no _ _ d2
    refine ⟨⟨bm, ob, m1, m2, nb hns m3 (fun es n z => by rw [m6] at z; cases z), fun z => ?_, hidT_get m3 (free bm ob m3 (fun z _ => ?_) fun z => ?_), m4, m5, m6⟩, Ne.symm (nb hns (hT b hb).1 fun es n z => by cases z)⟩
    · subst z
      cases (hT bm hb).1.symm.trans m3
      cases m6
    · subst z
      cases ha.symm.trans m3
      cases m6
    · cases (hT bm z).1.symm.trans m3
      cases m6
  obtain ⟨mc, l1, l2⟩ := hlim
  have e0 : Env0 P w K mg (hidT s.heap H) callerA [] s H := ⟨rfl, ⟨hKb, nsF hns, ⟨mb, nsF hb, hbb⟩, ⟨mc, nsF l1, l2⟩⟩, fun b o e => of_hidT e, Nat.le_of_eq (hidT_size _ _), trivial, fun b z => absurd z (by simp [frs]), hok, .of_eq hg⟩
  refine codeAny_mono ((G _ hKb (nsF hns) hbt).2 callerA [] s H ⟨[.ref a], []⟩ [.ref a] [.ref a] _ E0 rfl hr e0 (hbind s (.ref a)) (.cons rfl .nil) hsp) fun r s2 h => ?_
  match r, h with
  | .error er, h =>
    obtain ⟨_, _, _, _, _, _, _, _, _, _, _, _, z⟩ := h
    exact z.elim
  | .ok .next, h => exact False.elim h
  | .ok .brk, h => exact False.elim h
  | .ok .cont, h => exact False.elim h
  | .ok (.ret u), ⟨v, H2, os, bare, un, hok2, rv, q⟩ =>
    have q' : v = .bl true := q
    subst q'
    have all : ∀ b o, s.heap.get? b = some o → asItWas s.heap s2.heap b o := fun b o e => by
      rcases hH b with z | ⟨z1, z2, z3⟩ | ⟨z1, z2⟩
      · exact .inl (un.keep b o e z (by simp [frs]) (by simp))
      · have g1 := (hok b _ z3).1
        have g2 := (hok2 b _ (un.frzs b _ _ z3)).1
        rw [e] at g1
        cases g1
        exact .inl g2
      · obtain ⟨more, g1⟩ := un.tbls b _ z2
        have g2 : s2.heap.get? b = some { cls := Value.none, data := .fields (#[] ++ more) } := hok2 b _ g1
        have g3 := (hT b z1).1
        rw [e] at g3
        cases g3
        exact .inr (.inl ⟨(hT b z1).2.2, rfl, #[], more, rfl, g2⟩)
    refine ⟨by rw [show u = Value.bool true from rv], ⟨all, fun b o e => ?_⟩, os, bare⟩
    rcases all b o e with g | ⟨_, _, _, _, _, g⟩ | ⟨_, _, ⟨_, _, _, g, _⟩, _⟩
    · exact ⟨_, g⟩
    · exact ⟨_, g⟩
    · exact ⟨_, g⟩
theorem log_bits {k : Int} (h : Builtin.Int.intBits k ≤ 1048576) : k.natAbs.log2 < 1048576 := by
  unfold Builtin.Int.intBits at h
  by_cases e : k = 0
  · subst e
    decide
  · rw [if_neg (by simpa using e)] at h
    exact h
open Classical in
/-- the tables are there too -/
noncomputable def withT (S : Hp) : Hp := fun b => if Tb b then some (.tbl #[]) else S b
theorem withT_tb {S : Hp} {b : Addr} (h : Tb b) : withT S b = some (.tbl #[]) := if_pos h
theorem withT_no {S : Hp} {b : Addr} (h : ¬ Tb b) : withT S b = S b := if_neg h
theorem walk_GB {l : PySem.W.OpenLaw} {n k : Nat} {q : Program} {loose : List Str} {XP : (Str → Option Value) → Heap → Prop} {YP : World → Heap → Prop} {d : DefRec} {K : Params → PySem.W.Frag} {T : TSp} {x : Str}
    (hn : l.most = some n) (hn2 : n ≤ sizeLine) (hdf : d.params.defaults = []) (hr : Room k callerA) (hY : ∀ (w : World) (h : Heap), YP w h → (K w.params).In h)
    (hTb : ∀ (w : World) (h : Heap), YP w h → ∀ b, Tb b → h.get? b = some (PySem.W.tabObj #[]) ∧ (K w.params).lookup b = none ∧ isCodeTable h b)
    (F : ∀ (w : World) (mg : Str → Option Value) (fa : Addr) (h : Heap), (K w.params).In h → h.Ns mainGlobals mg → mg d.name = some (.ref fa) →
      ∃ fd : FuncData, (∀ (s : Shared) (u : Value), BindsTo s fd ⟨[u], []⟩ [(x, u)]) ∧ ∀ base : Heap, (K w.params).In base → base.Ns mainGlobals mg → (∀ b, Tb b → base.BuiltinsAt mg b ∧ mainGlobals ≠ b) → FnG l.prog w (K w.params) mg base k fa fd [x] (spV (K w.params) 1 T))
    (hT : ∀ ns : List Int, ns.length ≤ n → (∀ k ∈ ns, k.natAbs.log2 < 1048576) → T [.list (ns.map .int)] fun r => r = .bool true) : PySem.W.WalkO q loose XP YP l.row.toRowW d [] (fun f vs => PySem.call f vs) := by
  refine Att.attach_callB hn hdf fun w s₀ s mg mb fa o pm cd doc a vs ns Gr Y ho hd hcd hmg hobj hints hlen hbits hg => ?_
  have KX := hY w _ Y
  have TX := hTb w _ Y
  obtain ⟨fd, hb, hF⟩ := F w mg fa _ KX Gr.T.g hmg
  have hall : ∀ (H : Hp) (xs : List Int), DqAll (K w.params) H (xs.map V.int) (xs.map PyData.int) := fun H xs => by
    induction xs with
    | nil => exact .nil
    | cons y ys ih => exact .cons (.int y) ih
  have na : ∀ b, Tb b → b ≠ a := fun b h z => by
    subst z
    have := (TX b h).1
    rw [hobj] at this
    cases this
  have go : ∀ S : Hp, (∀ b, S b = none ∨ (b = a ∧ (K w.params).lookup a = none ∧ S b = some (.frz { cls := .type "list", data := .seq vs.toArray } (.lst (ns.map V.int))))) → SqQ (K w.params) S a (ns.map V.int) → _ := fun S hS hQ => by
    have off : ∀ b, Tb b → S b = none := fun b h => (hS b).elim id fun z => absurd z.1 (na b h)
    have sm : Same S (withT S) := fun b o e => by
      rw [withT_no fun h => by rw [off b h] at e; cases e]
      exact e
    have fo : Found S (withT S) := ⟨fun p hp => ⟨#[], withT_tb ⟨p, hp, rfl⟩, trivial, fun pos cv hc => by cases hc⟩, off⟩
    refine law_entry (withT S) (fun b => ?_) TX Gr.T.bmain KX Gr.T.g Gr.T.b Gr.T.builtins Gr.T.nolimit hg hobj hints (Nat.le_trans hlen hn2) hr hF hb ?_
    · by_cases h : Tb b
      · exact .inr (.inr ⟨h, withT_tb h⟩)
      · rw [withT_no h]
        exact (hS b).imp id .inl
    · refine ⟨S, [.list (ns.map .int)], fun r => r = .bool true, sm, fo, .cons (.lst hQ (hall S ns)) .nil, rfl, hT ns hlen fun k hk => log_bits (hbits k hk), fun dd v S' H' e _ _ _ _ hv => ?_⟩
      subst e
      cases hv
      rfl
  cases hk : (K w.params).lookup a with
  | some ob =>
    have e := KX a ob hk
    rw [hobj] at e
    cases e
    refine go (fun _ => none) (fun _ => .inl rfl) (.inr ⟨vs, _, hk, ?_, vals_ints hints⟩)
    rw [hints.length]
    exact Nat.le_trans hlen hn2
  | none =>
    refine go (onlyS a { cls := .type "list", data := .seq vs.toArray } (ns.map V.int)) (fun b => ?_) (.inl (.inr ⟨{ cls := .type "list", data := .seq vs.toArray }, if_pos rfl⟩))
    by_cases hb : b = a
    · exact .inr ⟨hb, hk, if_pos hb⟩
    · exact .inl (if_neg hb)
end Tr
set_option Elab.async false
set_option linter.all false
set_option maxRecDepth 100000
set_option maxHeartbeats 4000000
namespace K04
open PySem PySem.Spec PyProof.Rows L2 Tr TrX
open PySem.W (OpenLaw)
variable [Tabbed]
theorem all_mk {l : PySem.W.OpenLaw} {w : World} {K : PySem.W.Frag} {h : Heap} {mg : Str → Option Value} {fa f0 f1 f2 f3 f4 f5 f6 f7 f8 f9 f10 f11 f12 f13 f14 f15 f16 f17 f18 f19 : Addr} (X : K.In h) (G : h.Ns mainGlobals mg) (hfa : mg "law" = some (.ref fa))
    {od0 an0 od1 an1 od2 an2 od3 an3 od4 an4 od5 an5 od6 an6 od7 an7 od8 an8 od9 an9 od10 an10 od11 an11 od12 an12 od13 an13 od14 an14 od15 an15 od16 an16 od17 an17 od18 an18 od19 an19 : Option Addr} {sl0 sl1 sl2 sl3 sl4 sl5 sl6 sl7 sl8 sl9 sl10 sl11 sl12 sl13 sl14 sl15 sl16 sl17 sl18 sl19 : Array (Option Value)} {oc0 kV0 dc0 pm0 cd0 ct0 oc1 kV1 dc1 pm1 cd1 ct1 oc2 kV2 dc2 pm2 cd2 ct2 oc3 kV3 dc3 pm3 cd3 ct3 oc4 kV4 dc4 pm4 cd4 ct4 oc5 kV5 dc5 pm5 cd5 ct5 oc6 kV6 dc6 pm6 cd6 ct6 oc7 kV7 dc7 pm7 cd7 ct7 oc8 kV8 dc8 pm8 cd8 ct8 oc9 kV9 dc9 pm9 cd9 ct9 oc10 kV10 dc10 pm10 cd10 ct10 oc11 kV11 dc11 pm11 cd11 ct11 oc12 kV12 dc12 pm12 cd12 ct12 oc13 kV13 dc13 pm13 cd13 ct13 oc14 kV14 dc14 pm14 cd14 ct14 oc15 kV15 dc15 pm15 cd15 ct15 oc16 kV16 dc16 pm16 cd16 ct16 oc17 kV17 dc17 pm17 cd17 ct17 oc18 kV18 dc18 pm18 cd18 ct18 oc19 kV19 dc19 pm19 cd19 ct19 : Value}
    {C fI C1 C2 N0 : Addr} {nm q0 : Str} {bs sub : List Value} {sn : List Str} {ab : Bool} {col : Option Bool} {dd xod xan : Option Addr} {m0 m1 m2 m3 m5 : Option Value} {xsl : Array (Option Value)} {xoc xdc xpm xcd xct : Value}{cSserving : Addr}
    (a0 : PySem.W.nsIn K mainGlobals "gives" = some (some (.ref f0)))
    (l0 : K.lookup f0 = some ⟨oc0, od0, .func (PySem.W.fnOf "gives" "gives" (defArgs s_gives) (defBody s_gives) (defScope s_gives) .none kV0 dc0 pm0 an0 cd0 ct0), sl0⟩)
    (c0 : PySem.W.codeIn K cd0 "gives" = true) (k0 : PySem.W.keepIn K (.ref f0) = true)
    (a1 : PySem.W.nsIn K mainGlobals "serving" = some (some (.ref f1)))
    (l1 : K.lookup f1 = some ⟨oc1, od1, .func (PySem.W.fnOf "serving" "serving" (defArgs s_serving) (defBody s_serving) (defScope s_serving) .none kV1 dc1 pm1 an1 cd1 ct1), sl1⟩)
    (c1 : PySem.W.codeIn K cd1 "serving" = true) (k1 : PySem.W.keepIn K (.ref f1) = true)
    (a2 : PySem.W.nsIn K mainGlobals "serves" = some (some (.ref f2)))
    (l2 : K.lookup f2 = some ⟨oc2, od2, .func (PySem.W.fnOf "serves" "serves" (defArgs s_serves) (defBody s_serves) (defScope s_serves) .none kV2 dc2 pm2 an2 cd2 ct2), sl2⟩)
    (c2 : PySem.W.codeIn K cd2 "serves" = true) (k2 : PySem.W.keepIn K (.ref f2) = true)
    (a3 : PySem.W.nsIn K mainGlobals "lib_named" = some (some (.ref f3)))
    (l3 : K.lookup f3 = some ⟨oc3, od3, .func (PySem.W.fnOf "lib_named" "lib_named" (defArgs s_lib_named) (defBody s_lib_named) (defScope s_lib_named) .none kV3 dc3 pm3 an3 cd3 ct3), sl3⟩)
    (c3 : PySem.W.codeIn K cd3 "lib_named" = true) (k3 : PySem.W.keepIn K (.ref f3) = true)
    (a4 : PySem.W.nsIn K mainGlobals "_law_cell_at" = some (some (.ref f4)))
    (l4 : K.lookup f4 = some ⟨oc4, od4, .func (PySem.W.fnOf "_law_cell_at" "_law_cell_at" (defArgs s_cell_at) (defBody s_cell_at) (defScope s_cell_at) .none kV4 dc4 pm4 an4 cd4 ct4), sl4⟩)
    (c4 : PySem.W.codeIn K cd4 "_law_cell_at" = true) (k4 : PySem.W.keepIn K (.ref f4) = true)
    (a5 : PySem.W.nsIn K mainGlobals "_law_box" = some (some (.ref f5)))
    (l5 : K.lookup f5 = some ⟨oc5, od5, .func (PySem.W.fnOf "_law_box" "_law_box" (defArgs s_box) (defBody s_box) (defScope s_box) .none kV5 dc5 pm5 an5 cd5 ct5), sl5⟩)
    (c5 : PySem.W.codeIn K cd5 "_law_box" = true) (k5 : PySem.W.keepIn K (.ref f5) = true)
    (a6 : PySem.W.nsIn K mainGlobals "_law_take" = some (some (.ref f6)))
    (l6 : K.lookup f6 = some ⟨oc6, od6, .func (PySem.W.fnOf "_law_take" "_law_take" (defArgs s_take) (defBody s_take) (defScope s_take) .none kV6 dc6 pm6 an6 cd6 ct6), sl6⟩)
    (c6 : PySem.W.codeIn K cd6 "_law_take" = true) (k6 : PySem.W.keepIn K (.ref f6) = true)
    (a7 : PySem.W.nsIn K mainGlobals "_law_pick" = some (some (.ref f7)))
    (l7 : K.lookup f7 = some ⟨oc7, od7, .func (PySem.W.fnOf "_law_pick" "_law_pick" (defArgs s_pick) (defBody s_pick) (defScope s_pick) .none kV7 dc7 pm7 an7 cd7 ct7), sl7⟩)
    (c7 : PySem.W.codeIn K cd7 "_law_pick" = true) (k7 : PySem.W.keepIn K (.ref f7) = true)
    (a8 : PySem.W.nsIn K mainGlobals "_law_same" = some (some (.ref f8)))
    (l8 : K.lookup f8 = some ⟨oc8, od8, .func (PySem.W.fnOf "_law_same" "_law_same" (defArgs s_same) (defBody s_same) (defScope s_same) .none kV8 dc8 pm8 an8 cd8 ct8), sl8⟩)
    (c8 : PySem.W.codeIn K cd8 "_law_same" = true) (k8 : PySem.W.keepIn K (.ref f8) = true)
    (a9 : PySem.W.nsIn K mainGlobals "_law_lists" = some (some (.ref f9)))
    (l9 : K.lookup f9 = some ⟨oc9, od9, .func (PySem.W.fnOf "_law_lists" "_law_lists" (defArgs s_lists) (defBody s_lists) (defScope s_lists) .none kV9 dc9 pm9 an9 cd9 ct9), sl9⟩)
    (c9 : PySem.W.codeIn K cd9 "_law_lists" = true) (k9 : PySem.W.keepIn K (.ref f9) = true)
    (a10 : PySem.W.nsIn K mainGlobals "_law_names" = some (some (.ref f10)))
    (l10 : K.lookup f10 = some ⟨oc10, od10, .func (PySem.W.fnOf "_law_names" "_law_names" (defArgs s_names) (defBody s_names) (defScope s_names) .none kV10 dc10 pm10 an10 cd10 ct10), sl10⟩)
    (c10 : PySem.W.codeIn K cd10 "_law_names" = true) (k10 : PySem.W.keepIn K (.ref f10) = true)
    (a11 : PySem.W.nsIn K mainGlobals "_law_some" = some (some (.ref f11)))
    (l11 : K.lookup f11 = some ⟨oc11, od11, .func (PySem.W.fnOf "_law_some" "_law_some" (defArgs s_some) (defBody s_some) (defScope s_some) .none kV11 dc11 pm11 an11 cd11 ct11), sl11⟩)
    (c11 : PySem.W.codeIn K cd11 "_law_some" = true) (k11 : PySem.W.keepIn K (.ref f11) = true)
    (a12 : PySem.W.nsIn K mainGlobals "_law_pairs" = some (some (.ref f12)))
    (l12 : K.lookup f12 = some ⟨oc12, od12, .func (PySem.W.fnOf "_law_pairs" "_law_pairs" (defArgs s_pairs) (defBody s_pairs) (defScope s_pairs) .none kV12 dc12 pm12 an12 cd12 ct12), sl12⟩)
    (c12 : PySem.W.codeIn K cd12 "_law_pairs" = true) (k12 : PySem.W.keepIn K (.ref f12) = true)
    (a13 : PySem.W.nsIn K mainGlobals "_law_lib" = some (some (.ref f13)))
    (l13 : K.lookup f13 = some ⟨oc13, od13, .func (PySem.W.fnOf "_law_lib" "_law_lib" (defArgs s_lib) (defBody s_lib) (defScope s_lib) .none kV13 dc13 pm13 an13 cd13 ct13), sl13⟩)
    (c13 : PySem.W.codeIn K cd13 "_law_lib" = true) (k13 : PySem.W.keepIn K (.ref f13) = true)
    (a14 : PySem.W.nsIn K mainGlobals "_law_program" = some (some (.ref f14)))
    (l14 : K.lookup f14 = some ⟨oc14, od14, .func (PySem.W.fnOf "_law_program" "_law_program" (defArgs s_program) (defBody s_program) (defScope s_program) .none kV14 dc14 pm14 an14 cd14 ct14), sl14⟩)
    (c14 : PySem.W.codeIn K cd14 "_law_program" = true) (k14 : PySem.W.keepIn K (.ref f14) = true)
    (a15 : PySem.W.nsIn K mainGlobals "_law_refused" = some (some (.ref f15)))
    (l15 : K.lookup f15 = some ⟨oc15, od15, .func (PySem.W.fnOf "_law_refused" "_law_refused" (defArgs s_refused) (defBody s_refused) (defScope s_refused) .none kV15 dc15 pm15 an15 cd15 ct15), sl15⟩)
    (c15 : PySem.W.codeIn K cd15 "_law_refused" = true) (k15 : PySem.W.keepIn K (.ref f15) = true)
    (a16 : PySem.W.nsIn K mainGlobals "_law_due" = some (some (.ref f16)))
    (l16 : K.lookup f16 = some ⟨oc16, od16, .func (PySem.W.fnOf "_law_due" "_law_due" (defArgs s_due) (defBody s_due) (defScope s_due) .none kV16 dc16 pm16 an16 cd16 ct16), sl16⟩)
    (c16 : PySem.W.codeIn K cd16 "_law_due" = true) (k16 : PySem.W.keepIn K (.ref f16) = true)
    (a17 : PySem.W.nsIn K mainGlobals "_law_length_right" = some (some (.ref f17)))
    (l17 : K.lookup f17 = some ⟨oc17, od17, .func (PySem.W.fnOf "_law_length_right" "_law_length_right" (defArgs s_length_right) (defBody s_length_right) (defScope s_length_right) .none kV17 dc17 pm17 an17 cd17 ct17), sl17⟩)
    (c17 : PySem.W.codeIn K cd17 "_law_length_right" = true) (k17 : PySem.W.keepIn K (.ref f17) = true)
    (a18 : PySem.W.nsIn K mainGlobals "_law_right" = some (some (.ref f18)))
    (l18 : K.lookup f18 = some ⟨oc18, od18, .func (PySem.W.fnOf "_law_right" "_law_right" (defArgs s_right) (defBody s_right) (defScope s_right) .none kV18 dc18 pm18 an18 cd18 ct18), sl18⟩)
    (c18 : PySem.W.codeIn K cd18 "_law_right" = true) (k18 : PySem.W.keepIn K (.ref f18) = true)
    (a19 : PySem.W.nsIn K mainGlobals "law" = some (some (.ref f19)))
    (l19 : K.lookup f19 = some ⟨oc19, od19, .func (PySem.W.fnOf "law" "law" (defArgs s_law) (defBody s_law) (defScope s_law) .none kV19 dc19 pm19 an19 cd19 ct19), sl19⟩)
    (c19 : PySem.W.codeIn K cd19 "law" = true) (k19 : PySem.W.keepIn K (.ref f19) = true)
    (z_abs : PySem.W.nsIn K mainGlobals "abs" = some none)
    (z_all : PySem.W.nsIn K mainGlobals "all" = some none)
    (z_bool : PySem.W.nsIn K mainGlobals "bool" = some none)
    (z_int : PySem.W.nsIn K mainGlobals "int" = some none)
    (z_isinstance : PySem.W.nsIn K mainGlobals "isinstance" = some none)
    (z_len : PySem.W.nsIn K mainGlobals "len" = some none)
    (z_list : PySem.W.nsIn K mainGlobals "list" = some none)
    (z_min : PySem.W.nsIn K mainGlobals "min" = some none)
    (z_range : PySem.W.nsIn K mainGlobals "range" = some none)
    (z_repr : PySem.W.nsIn K mainGlobals "repr" = some none)
    (z_set : PySem.W.nsIn K mainGlobals "set" = some none)
    (z_sorted : PySem.W.nsIn K mainGlobals "sorted" = some none)
    (z_str : PySem.W.nsIn K mainGlobals "str" = some none)
    (z_tuple : PySem.W.nsIn K mainGlobals "tuple" = some none)
    (xa : PySem.W.nsIn K mainGlobals "NoLib" = some (some (.ref C))) (xl : K.lookup C = some (excClassObj nm q0 C N0 bs leTail true sn sub ab col dd m0 m1 m2 m3 m5 "LookupError.__new__"))
    (xsa : PySem.W.findIn K (.ref C) "__setattr__" = some (some (.builtin "object.__setattr__"))) (xga : PySem.W.findIn K (.ref C) "__getattribute__" = some (some (.builtin "BaseException.__getattribute__"))) (xgg : PySem.W.findIn K (.ref C) "__getattr__" = some none) (xno : PySem.W.findIn K (.ref C) fN = some none)
    (xi : PySem.W.findIn K (.ref C) "__init__" = some (some (.ref fI))) (xt : PySem.W.typeIn K (.ref fI) = some (.type "function"))
    (xf : K.lookup fI = some ⟨xoc, xod, .func (PySem.W.fnOf "__init__" "NoLib.__init__" (iA fN ⟨8, 17, 8, 21⟩ ⟨8, 23, 8, 27⟩) (iB fN ⟨9, 8, 9, 12⟩ ⟨9, 8, 9, 17⟩ ⟨9, 20, 9, 24⟩ ⟨9, 8, 9, 24⟩) (iS fN) .none .none xdc xpm xan xcd xct), xsl⟩) (xc : PySem.W.codeIn K xcd "NoLib.__init__" = true)
    (xk : PySem.W.keepIn K (.ref C) = true) (xe : PySem.W.subIn K (.ref C) (.type "BaseException") = some true) (xy : PySem.W.typeIn K (.ref C) = some (.type "type")) (xh : PySem.W.hasDictIn K C = true)
    (xcc : PySem.W.findIn K (.ref C) "__class__" = some (some (.builtin "object.__class__"))) (xcg : PySem.W.specialIn K (.builtin "object.__class__") "__get__" = some (some (.builtin "getset_descriptor.__get__"))) (xct2 : PySem.W.takesIn K (.builtin "object.__class__") = some true) (xcm : PySem.W.mroIn K C (.type "object") = some true)
    (xa1 : PySem.W.nsIn K mainGlobals "NoDoor" = some (some (.ref C1))) (xa2 : PySem.W.nsIn K mainGlobals "NoUse" = some (some (.ref C2)))
    (xex : PySem.W.exmAny K (.ref C) [.ref C1, .ref C, .ref C2] = some true) (xkt : PySem.W.kitAny K (.ref C) [.ref C1, .ref C2] = some false)
    (tserving : ((83 : Addr), fun _ _ => ("serving" ++ ".<locals>." ++ "<lambda>" : Str)) ∈ Tabbed.T) (oserving : ∀ p ∈ Tabbed.T, p.1 = (83 : Addr) → p.2 = fun _ _ => ("serving" ++ ".<locals>." ++ "<lambda>" : Str)) (icserving : cd1 = .ref cSserving) (ihserving : PySem.W.codeHdIn K cSserving 83 = true) :
    ∃ fd : FuncData, (∀ (s : Shared) (v : Value), BindsTo s fd ⟨[v], []⟩ [("_law_script", v)]) ∧ ∀ base : Heap, K.In base → base.Ns mainGlobals mg → (∀ b, Tb b → base.BuiltinsAt mg b ∧ mainGlobals ≠ b) → FnG l.prog w K mg base 10 fa fd ["_law_script"] (spV K 1 tLaw) := by
  have e := hfa.symm.trans (PySem.W.mg_of X G a19)
  cases e
  have low : LkTxt K mg "NoLib" "NoLib.__init__" C fI := ⟨PySem.W.mg_of X G xa, ⟨nm, q0, N0, bs, sn, sub, ab, col, dd, m0, m1, m2, m3, m5, xl⟩, xsa, xga, xgg, xno, xi, xt, xk, xe, xy, xh, xcc, xcg, xct2, xcm,
    ⟨_, _, _, _, _, _, _, _, _, _, _, _, _, _, xf, xc⟩⟩
  have Z : Exs K mg := ⟨C, fI, C1, C2, low, PySem.W.mg_of X G xa1, PySem.W.mg_of X G xa2, xex, xkt⟩
  have F0 := fun_mk (st := s_gives) l0 c0 k0
  have b0 := F0.binds (ps := ["program", "name", "use"]) fun _ _ _ _ _ _ us hl => match us, hl with | [_, _, _], _ => rfl
  have F1 := fun_mk (st := s_serving) l1 c1 k1
  have b1 := F1.binds (ps := ["program", "name", "use"]) fun _ _ _ _ _ _ us hl => match us, hl with | [_, _, _], _ => rfl
  have F2 := fun_mk (st := s_serves) l2 c2 k2
  have b2 := F2.binds (ps := ["version", "wanted"]) fun _ _ _ _ _ _ us hl => match us, hl with | [_, _], _ => rfl
  have F3 := fun_mk (st := s_lib_named) l3 c3 k3
  have b3 := F3.binds (ps := ["program", "name"]) fun _ _ _ _ _ _ us hl => match us, hl with | [_, _], _ => rfl
  have F4 := fun_mk (st := s_cell_at) l4 c4 k4
  have b4 := F4.binds (ps := ["_law_script", "_law_gate"]) fun _ _ _ _ _ _ us hl => match us, hl with | [_, _], _ => rfl
  have F5 := fun_mk (st := s_box) l5 c5 k5
  have b5 := F5.binds (ps := ["_law_script", "_law_gate"]) fun _ _ _ _ _ _ us hl => match us, hl with | [_, _], _ => rfl
  have F6 := fun_mk (st := s_take) l6 c6 k6
  have b6 := F6.binds (ps := ["_law_box_here", "_law_many"]) fun _ _ _ _ _ _ us hl => match us, hl with | [_, _], _ => rfl
  have F7 := fun_mk (st := s_pick) l7 c7 k7
  have b7 := F7.binds (ps := ["_law_box_here", "_law_some_here"]) fun _ _ _ _ _ _ us hl => match us, hl with | [_, _], _ => rfl
  have F8 := fun_mk (st := s_same) l8 c8 k8
  have b8 := F8.binds (ps := ["_law_found", "_law_due_here"]) fun _ _ _ _ _ _ us hl => match us, hl with | [_, _], _ => rfl
  have F9 := fun_mk (st := s_lists) l9 c9 k9
  have b9 := F9.binds (ps := ["_law_matter"]) fun _ _ _ _ _ _ us hl => match us, hl with | [_], _ => rfl
  have F10 := fun_mk (st := s_names) l10 c10 k10
  have b10 := F10.binds (ps := ["_law_box_here", "_law_many"]) fun _ _ _ _ _ _ us hl => match us, hl with | [_, _], _ => rfl
  have F11 := fun_mk (st := s_some) l11 c11 k11
  have b11 := F11.binds (ps := ["_law_box_here", "_law_some_here", "_law_most"]) fun _ _ _ _ _ _ us hl => match us, hl with | [_, _, _], _ => rfl
  have F12 := fun_mk (st := s_pairs) l12 c12 k12
  have b12 := F12.binds (ps := ["_law_box_here", "_law_most"]) fun _ _ _ _ _ _ us hl => match us, hl with | [_, _], _ => rfl
  have F13 := fun_mk (st := s_lib) l13 c13 k13
  have b13 := F13.binds (ps := ["_law_box_here", "_law_own", "_law_others", "_law_is_main"]) fun _ _ _ _ _ _ us hl => match us, hl with | [_, _, _, _], _ => rfl
  have F14 := fun_mk (st := s_program) l14 c14 k14
  have b14 := F14.binds (ps := ["_law_box_here", "_law_most", "_law_gates"]) fun _ _ _ _ _ _ us hl => match us, hl with | [_, _, _], _ => rfl
  have F15 := fun_mk (st := s_refused) l15 c15 k15
  have b15 := F15.binds (ps := ["_law_plot", "_law_own"]) fun _ _ _ _ _ _ us hl => match us, hl with | [_, _], _ => rfl
  have F16 := fun_mk (st := s_due) l16 c16 k16
  have b16 := F16.binds (ps := ["_law_lib_here", "_law_want"]) fun _ _ _ _ _ _ us hl => match us, hl with | [_, _], _ => rfl
  have F17 := fun_mk (st := s_length_right) l17 c17 k17
  have b17 := F17.binds (ps := []) fun _ _ _ _ _ _ us hl => match us, hl with | [], _ => rfl
  have F18 := fun_mk (st := s_right) l18 c18 k18
  have b18 := F18.binds (ps := ["_law_box_here"]) fun _ _ _ _ _ _ us hl => match us, hl with | [_], _ => rfl
  have F19 := fun_mk (st := s_law) l19 c19 k19
  have b19 := F19.binds (ps := ["_law_script"]) fun _ _ _ _ _ _ us hl => match us, hl with | [_], _ => rfl
  let T : Top K mg := ⟨f0, _, F0, b0, PySem.W.mg_of X G a0, f1, _, F1, b1, PySem.W.mg_of X G a1, f2, _, F2, b2, PySem.W.mg_of X G a2, f3, _, F3, b3, PySem.W.mg_of X G a3, f4, _, F4, b4, PySem.W.mg_of X G a4, f5, _, F5, b5, PySem.W.mg_of X G a5, f6, _, F6, b6, PySem.W.mg_of X G a6, f7, _, F7, b7, PySem.W.mg_of X G a7, f8, _, F8, b8, PySem.W.mg_of X G a8, f9, _, F9, b9, PySem.W.mg_of X G a9, f10, _, F10, b10, PySem.W.mg_of X G a10, f11, _, F11, b11, PySem.W.mg_of X G a11, f12, _, F12, b12, PySem.W.mg_of X G a12, f13, _, F13, b13, PySem.W.mg_of X G a13, f14, _, F14, b14, PySem.W.mg_of X G a14, f15, _, F15, b15, PySem.W.mg_of X G a15, f16, _, F16, b16, PySem.W.mg_of X G a16, f17, _, F17, b17, PySem.W.mg_of X G a17, f18, _, F18, b18, PySem.W.mg_of X G a18, fa, _, F19, b19, PySem.W.mg_of X G a19, PySem.W.mg_none_of X G z_abs, PySem.W.mg_none_of X G z_all, PySem.W.mg_none_of X G z_bool, PySem.W.mg_none_of X G z_int, PySem.W.mg_none_of X G z_isinstance, PySem.W.mg_none_of X G z_len, PySem.W.mg_none_of X G z_list, PySem.W.mg_none_of X G z_min, PySem.W.mg_none_of X G z_range, PySem.W.mg_none_of X G z_repr, PySem.W.mg_none_of X G z_set, PySem.W.mg_none_of X G z_sorted, PySem.W.mg_none_of X G z_str, PySem.W.mg_none_of X G z_tuple, cSserving, 83, icserving, fun h X => PySem.W.codeHd_of_K X ihserving, tserving, oserving⟩
  exact ⟨PySem.W.fnOf "law" "law" (defArgs s_law) (defBody s_law) (defScope s_law) .none kV19 dc19 pm19 an19 cd19 ct19, fun s v => .of_eq rfl, fun base KB _ hB => ok_law T (ok_right T ⟨PySem.W.codeHd_of_K KB ihserving, (hB 83 ⟨_, tserving, rfl⟩).1, (hB 83 ⟨_, tserving, rfl⟩).2⟩ (ok_refused T Z) T.B_refused)⟩
end K04
open PySem PySem.W PyProof.Rows
set_option maxRecDepth 100000 in
set_option maxHeartbeats 0 in
theorem PySem.Challenge.cw_latebound_k04_definitions_given_holds : PySem.Challenge.rw_latebound_k04_definitions_given.Holds := by
  w_on; o_law; k_head; (case hw => w_witness2)
  k_fill
  letI : Tr.Tabbed := ⟨[((83 : PySem.Addr), fun _ _ => ("serving" ++ ".<locals>." ++ "<lambda>" : PySem.Str))]⟩
  refine Tr.walk_GB (l := PySem.Challenge.rw_latebound_k04_definitions_given) (n := 63) (k := 10) (x := "_law_script") (T := K04.tLaw) rfl (by decide) rfl ⟨rfl, by decide, by decide⟩ (fun w h Y => PySem.W.km_in_of Y) ?T ?F ?S
  case S => exact fun ns hl hb => ⟨ns, rfl, by omega, hb, rfl⟩
  case T =>
    rintro w h Y b ⟨p, hp, rfl⟩
    rw [List.mem_singleton.mp hp]
    exact ⟨PySem.W.km_tabs_of Y 83 (by simp), by kernel_rfl, by obtain ⟨o, vs, _, _, _, _, _, _, _, e1, e2, e3, e4, _⟩ := PySem.W.codeHd_of_K (c := 85) (P := 83) (PySem.W.km_in_of Y) (by kernel_rfl); exact ⟨_, o, vs, e1, e2, e3, e4⟩⟩
  case F =>
    intro w mg fa h KX G hmg
    refine' K04.all_mk KX G hmg ?a0 ?l0 ?c0 ?k0 ?a1 ?l1 ?c1 ?k1 ?a2 ?l2 ?c2 ?k2 ?a3 ?l3 ?c3 ?k3 ?a4 ?l4 ?c4 ?k4 ?a5 ?l5 ?c5 ?k5 ?a6 ?l6 ?c6 ?k6 ?a7 ?l7 ?c7 ?k7 ?a8 ?l8 ?c8 ?k8 ?a9 ?l9 ?c9 ?k9 ?a10 ?l10 ?c10 ?k10 ?a11 ?l11 ?c11 ?k11 ?a12 ?l12 ?c12 ?k12 ?a13 ?l13 ?c13 ?k13 ?a14 ?l14 ?c14 ?k14 ?a15 ?l15 ?c15 ?k15 ?a16 ?l16 ?c16 ?k16 ?a17 ?l17 ?c17 ?k17 ?a18 ?l18 ?c18 ?k18 ?a19 ?l19 ?c19 ?k19 ?z_abs ?z_all ?z_bool ?z_int ?z_isinstance ?z_len ?z_list ?z_min ?z_range ?z_repr ?z_set ?z_sorted ?z_str ?z_tuple ?xa ?xl ?xsa ?xga ?xgg ?xno ?xi ?xt ?xf ?xc ?xk ?xe ?xy ?xh ?xcc ?xcg ?xct2 ?xcm ?xa1 ?xa2 ?xex ?xkt ?tserving ?oserving ?icserving ?ihserving
    (case a0 => k_is)
    (case l0 => k_is)
    (case c0 => k_is)
    (case k0 => k_is)
    (case a1 => k_is)
    (case l1 => k_is)
    (case c1 => k_is)
    (case k1 => k_is)
    (case a2 => k_is)
    (case l2 => k_is)
    (case c2 => k_is)
    (case k2 => k_is)
    (case a3 => k_is)
    (case l3 => k_is)
    (case c3 => k_is)
    (case k3 => k_is)
    (case a4 => k_is)
    (case l4 => k_is)
    (case c4 => k_is)
    (case k4 => k_is)
    (case a5 => k_is)
    (case l5 => k_is)
    (case c5 => k_is)
    (case k5 => k_is)
    (case a6 => k_is)
    (case l6 => k_is)
    (case c6 => k_is)
    (case k6 => k_is)
    (case a7 => k_is)
    (case l7 => k_is)
    (case c7 => k_is)
    (case k7 => k_is)
    (case a8 => k_is)
    (case l8 => k_is)
    (case c8 => k_is)
    (case k8 => k_is)
    (case a9 => k_is)
    (case l9 => k_is)
    (case c9 => k_is)
    (case k9 => k_is)
    (case a10 => k_is)
    (case l10 => k_is)
    (case c10 => k_is)
    (case k10 => k_is)
    (case a11 => k_is)
    (case l11 => k_is)
    (case c11 => k_is)
    (case k11 => k_is)
    (case a12 => k_is)
    (case l12 => k_is)
    (case c12 => k_is)
    (case k12 => k_is)
    (case a13 => k_is)
    (case l13 => k_is)
    (case c13 => k_is)
    (case k13 => k_is)
    (case a14 => k_is)
    (case l14 => k_is)
    (case c14 => k_is)
    (case k14 => k_is)
    (case a15 => k_is)
    (case l15 => k_is)
    (case c15 => k_is)
    (case k15 => k_is)
    (case a16 => k_is)
    (case l16 => k_is)
    (case c16 => k_is)
    (case k16 => k_is)
    (case a17 => k_is)
    (case l17 => k_is)
    (case c17 => k_is)
    (case k17 => k_is)
    (case a18 => k_is)
    (case l18 => k_is)
    (case c18 => k_is)
    (case k18 => k_is)
    (case a19 => k_is)
    (case l19 => k_is)
    (case c19 => k_is)
    (case k19 => k_is)
    (case z_abs => k_is)
    (case z_all => k_is)
    (case z_bool => k_is)
    (case z_int => k_is)
    (case z_isinstance => k_is)
    (case z_len => k_is)
    (case z_list => k_is)
    (case z_min => k_is)
    (case z_range => k_is)
    (case z_repr => k_is)
    (case z_set => k_is)
    (case z_sorted => k_is)
    (case z_str => k_is)
    (case z_tuple => k_is)
    (case xa => k_is)
    (case xl => k_is)
    (case xsa => k_is)
    (case xga => k_is)
    (case xgg => k_is)
    (case xno => k_is)
    (case xi => k_is)
    (case xt => k_is)
    (case xf => k_is)
    (case xc => k_is)
    (case xk => k_is)
    (case xe => k_is)
    (case xy => k_is)
    (case xh => k_is)
    (case xcc => k_is)
    (case xcg => k_is)
    (case xct2 => k_is)
    (case xcm => k_is)
    (case xa1 => k_is)
    (case xa2 => k_is)
    (case xex => kts_exm)
    (case xkt => kit_is)
    (case tserving => exact List.mem_singleton.mpr rfl)
    (case oserving => exact fun p hp _ => congrArg Prod.snd (List.mem_singleton.mp hp))
    (case icserving => rfl)
    (case ihserving => kernel_rfl)
