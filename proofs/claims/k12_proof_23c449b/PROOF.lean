import PyProof.Rows.All
import Wide.All
import OpenK.AllK
import Wide.FinOn
import HandS.ForMost
import HandS.ForExc
import HandS.IsInst
import HandS.NoneIn
import HandS.Wide
import HandS.Deep
import HandS.Defaults
import HandS.TryMany
import HandS.Nested
import HandS.TupAny
import HandS.Style
import HandS.TupSets
import KE.SortData
import HandS.SortKw
import KE.DataMinMax
import HandS.Dict
import HandS.Star
import HandS.DictComp
import HandS.DictTup
import PyProof.StrBlock2
import KE.LtData
import HandS.Text
import HandS.Iter
import HandS.TupMul
import HandS.SetFor
import HandS.Strs
import HandS.Lambda
import KE.KLam
import KE.SortKeyHeap
import PySem.Challenge.RW_latebound_k12_whole_doors_opened_twice
import HandS.EndBits
import KE.RegKTryMore
import KE.KNestM
set_option Elab.async false
set_option linter.all false
set_option maxRecDepth 100000
set_option maxHeartbeats 2000000
/-! Tr: readings over trees: a layer over HandS where values are data trees (PyData), and a local list that nobody else holds is a slot of its own. -/
namespace Tr
open PySem PySem.Spec PyProof.Rows L2

/-- the tables of code objects that grow while the law runs: each with the names of what it holds -/
class Tabbed where
  T : List NdefX.NTab
/-- the address of such a table -/
def Tb [Tabbed] (b : Addr) : Prop := ∃ p ∈ Tabbed.T, p.1 = b
/-- the tables are as they should be -/
abbrev CodeTabs [Tabbed] (H : Hp) : Prop := NdefX.TabsN Tabbed.T H
variable [Tabbed]
theorem CodeTabs.tbl {H : Hp} (h : CodeTabs H) {b : Addr} (hb : Tb b) : ∃ ps, H b = some (.tbl ps) := by
  obtain ⟨p, hp, rfl⟩ := hb
  obtain ⟨ps, h1, _⟩ := h p hp
  exact ⟨ps, h1⟩
theorem CodeTabs.nl {H : Hp} (h : CodeTabs H) {b : Addr} {vs : List V} (e : H b = some (.lst vs)) : ¬ Tb b := fun hb => by
  obtain ⟨ps, h1⟩ := h.tbl hb
  rw [e] at h1
  cases h1
/-- a list is changed -/
theorem CodeTabs.but {H H' : Hp} (h : CodeTabs H) {a : Addr} {vs : List V} (e : H a = some (.lst vs)) (k : ∀ b o, b ≠ a → H b = some o → H' b = some o) : CodeTabs H' := fun p hp => by
  obtain ⟨ps, h1, h2, h3⟩ := h p hp
  refine ⟨ps, k _ _ (fun z => ?_) h1, h2, fun pos cv hc => ?_⟩
  · rw [z, e] at h1
    cases h1
  · obtain ⟨c, e1, e2⟩ := h3 pos cv hc
    refine ⟨c, e1, k _ _ (fun z => ?_) e2⟩
    rw [z, e] at e2
    cases e2
theorem CodeTabs.same {H H' : Hp} (h : CodeTabs H) (k : ∀ b o, H b = some o → H' b = some o) : CodeTabs H' := NdefX.TabsN.ext h k

/-- a list that is read, its object told in full -/
def SqQ (K : PySem.W.Frag) (H : Hp) (a : Addr) (xs : List V) : Prop :=
  Rd H a (.lst xs) ∨ ∃ (its : List Value) (n : Nat), K.lookup a = some { cls := .type "list", data := .seq its.toArray n } ∧ its.length ≤ sizeLine ∧ Vals xs its
theorem SqQ.of {K : PySem.W.Frag} {H : Hp} {a : Addr} {xs : List V} (h : H a = some (.lst xs)) : SqQ K H a xs := .inl (.inl h)
theorem SqQ.l {K : PySem.W.Frag} {H : Hp} {a : Addr} {xs : List V} (h : SqQ K H a xs) : SqL K H a xs := by
  rcases h with h | ⟨its, n, h1, h2, h3⟩
  · exact .inl h
  · exact .inr ⟨_, its.toArray, n, h1, rfl, rfl, rfl, by simpa using h2, by simpa using h3⟩
/-! a value is a tree -/
/-- a tree that tells a dict of texts; an object that stands still, by its class and its attributes -/
def dcM : List Str → List PyData → List (PyData × PyData)
  | k :: ks, d :: ds => (.str k, d) :: dcM ks ds
  | _, _ => []
def obM (C : Addr) (ks : List Str) (ds : List PyData) : List (PyData × PyData) := (.none, .int (C : Nat)) :: dcM ks ds
/-! trees without such -/
mutual
def nd : PyData → Bool
  | .list xs | .tuple xs => ndAll xs
  | .dict _ => false
  | _ => true
def ndAll : List PyData → Bool
  | [] => true
  | x :: xs => nd x && ndAll xs
end
mutual
theorem nd_canLay : ∀ (d : PyData), d.canLay0 = true → nd d = true
  | .none, _ => rfl
  | .bool _, _ => rfl
  | .int _, _ => rfl
  | .str _, _ => rfl
  | .list xs, h => nd_canLayAll xs (by simpa [PyData.canLay0] using h)
  | .tuple xs, h => nd_canLayAll xs (by simpa [PyData.canLay0] using h)
  | .dict _, h => by simp [PyData.canLay0] at h
theorem nd_canLayAll : ∀ (ds : List PyData), PyData.canLayAll0 ds = true → ndAll ds = true
  | [], _ => rfl
  | x :: xs, h => by
    have h' : x.canLay0 = true ∧ PyData.canLayAll0 xs = true := by simpa [PyData.canLayAll0] using h
    show (nd x && ndAll xs) = true
    rw [nd_canLay x h'.1, nd_canLayAll xs h'.2]
    rfl
end
mutual
theorem nd_of : ∀ (d : PyData), d.hasDict = false → nd d = true
  | .none, _ => rfl
  | .bool _, _ => rfl
  | .int _, _ => rfl
  | .str _, _ => rfl
  | .list xs, h => nd_ofAll xs (by simpa [PyData.hasDict] using h)
  | .tuple xs, h => nd_ofAll xs (by simpa [PyData.hasDict] using h)
  | .dict _, h => by simp [PyData.hasDict] at h
theorem nd_ofAll : ∀ (ds : List PyData), PyData.hasDictAll ds = false → ndAll ds = true
  | [], _ => rfl
  | x :: xs, h => by
    have h' : x.hasDict = false ∧ PyData.hasDictAll xs = false := by simpa [PyData.hasDictAll] using h
    show (nd x && ndAll xs) = true
    rw [nd_of x h'.1, nd_ofAll xs h'.2]
    rfl
end
theorem nd_shaped {d : PyData} (h : SeqAt.shaped d = true) : nd d = true := nd_canLay d (SeqAt.canLay_of_shaped h)
mutual
inductive Dq (K : PySem.W.Frag) (H : Hp) : V → PyData → Prop
  | non : Dq K H .non .none
  | bl (b : Bool) : Dq K H (.bl b) (.bool b)
  | int (i : Int) : Dq K H (.int i) (.int i)
  | str (x : Str) : Dq K H (.str x) (.str x)
  | lst {a : Addr} {xs : List V} {ds : List PyData} : SqQ K H a xs → DqAll K H xs ds → Dq K H (.ref a) (.list ds)
  | tup {a : Addr} {xs : List V} {ds : List PyData} : SqT K H a xs → DqAll K H xs ds → Dq K H (.ref a) (.tuple ds)
  | ob {a C dx : Addr} {fs : List (Str × V)} {ds : List PyData} {m : List (PyData × PyData)} : H a = some (.ins C dx fs) → DqAll K H (fs.map Prod.snd) ds → m = obM C (fs.map Prod.fst) ds → Dq K H (.ref a) (.dict m)
  | dc {a : Addr} {ks : List Str} {kvs : List (Key × V)} {ds : List PyData} {m : List (PyData × PyData)} : H a = some (.dK kvs) → kvs.map Prod.fst = ks.map Sum.inr → DqAll K H (kvs.map Prod.snd) ds → m = dcM ks ds → Dq K H (.ref a) (.dict m)
inductive DqAll (K : PySem.W.Frag) (H : Hp) : List V → List PyData → Prop
  | nil : DqAll K H [] []
  | cons {v : V} {vs : List V} {d : PyData} {ds : List PyData} : Dq K H v d → DqAll K H vs ds → DqAll K H (v :: vs) (d :: ds)
end
mutual
theorem dq_p {K : PySem.W.Frag} {H : Hp} : ∀ (d : PyData) (v : V), nd d = true → Dq K H v d → Dp K H v d
  | .none, _, _, h => by cases h; exact .non
  | .bool b, _, _, h => by cases h; exact .bl b
  | .int i, _, _, h => by cases h; exact .int i
  | .str x, _, _, h => by cases h; exact .str x
  | .list ds, _, n, h => by
    cases h with
    | lst hs ha => exact .lst hs.l (dqAll_p ds _ n ha)
  | .tuple ds, _, n, h => by
    cases h with
    | tup hs ha => exact .tup hs (dqAll_p ds _ n ha)
  | .dict _, _, n, _ => by cases n
theorem dqAll_p {K : PySem.W.Frag} {H : Hp} : ∀ (ds : List PyData) (vs : List V), ndAll ds = true → DqAll K H vs ds → DpAll K H vs ds
  | [], _, _, h => by cases h; exact .nil
  | d :: ds, _, n, h => by
    have n' : nd d = true ∧ ndAll ds = true := by
      have : (nd d && ndAll ds) = true := n
      simpa using this
    cases h with
    | cons h1 h2 => exact .cons (dq_p d _ n'.1 h1) (dqAll_p ds _ n'.2 h2)
end
theorem Dq.p {K : PySem.W.Frag} {H : Hp} {d : PyData} {v : V} (h : Dq K H v d) (n : SeqAt.shaped d = true) : Dp K H v d := dq_p d v (nd_shaped n) h
theorem DqAll.p {K : PySem.W.Frag} {H : Hp} {ds : List PyData} {vs : List V} (h : DqAll K H vs ds) (n : ndAll ds = true) : DpAll K H vs ds := dqAll_p ds vs n h
/-- an attribute: a tree, or the thing's own dict -/
inductive Fv where
  | val (d : PyData)
  | dic
/-- a thing that one slot alone holds and changes: an instance of C at p, its attributes, its own dict of tuples at q; a dict of texts at p; a dict of tuples at p -/
inductive Ob where
  | ins (p C : Addr) (fs : List (Str × Fv)) (q : Addr) (kv : Option (List (List Key × PyData)))
  | dk (p : Addr) (m : List (Str × PyData))
  | dt (p : Addr) (l : List (List Key × PyData))
def Ob.p : Ob → Addr
  | .ins p _ _ _ _ => p
  | .dk p _ => p
  | .dt p _ => p
/-- its addresses -/
def Ob.M : Ob → Addr → Prop
  | .ins p _ _ q kv, b => b = p ∨ (kv ≠ none ∧ b = q)
  | .dk p _, b => b = p
  | .dt p _, b => b = p
/-- what a slot of the def holds: nothing known; a tree that stands still; a list that this slot alone holds (m: it was handed in, to be changed) -/
inductive Sl where
  | un
  | val (d : PyData)
  | own (m : Bool) (ds : List PyData)
  | dic (m : List (Str × PyData))
  | obj (o : Ob)
abbrev En := List Sl

/-- a dict that stands still: texts to trees -/
def DicIs (K : PySem.W.Frag) (S : Hp) (v : V) (m : List (Str × PyData)) : Prop := ∃ (a : Addr) (kvs : List (Key × V)), v = .ref a ∧ S a = some (.dK kvs) ∧ kvs.map Prod.fst = m.map (fun p => (Sum.inr p.1 : Key)) ∧ DqAll K S (kvs.map Prod.snd) (m.map Prod.snd)
def FvIs (K : PySem.W.Frag) (S : Hp) (q : Addr) (v : V) : Fv → Prop
  | .val d => Dq K S v d
  | .dic => v = .ref q
inductive Fields (K : PySem.W.Frag) (S : Hp) (q : Addr) : List (Str × V) → List (Str × Fv) → Prop
  | nil : Fields K S q [] []
  | cons {f : Str} {v : V} {x : Fv} {fs : List (Str × V)} {gs : List (Str × Fv)} : FvIs K S q v x → Fields K S q fs gs → Fields K S q ((f, v) :: fs) ((f, x) :: gs)
/-- how it looks -/
def ObAt (K : PySem.W.Frag) (S H : Hp) : Ob → Prop
  | .ins p C fs q kv => (∃ dx fs', H p = some (.ins C dx fs') ∧ Fields K S q fs' fs) ∧ ∀ l, kv = some l → ∃ kvs, H q = some (.dT kvs) ∧ kvs.map Prod.fst = l.map Prod.fst ∧ DqAll K S (kvs.map Prod.snd) (l.map Prod.snd)
  | .dk p m => ∃ kvs, H p = some (.dK kvs) ∧ kvs.map Prod.fst = m.map (fun p => (Sum.inr p.1 : Key)) ∧ DqAll K S (kvs.map Prod.snd) (m.map Prod.snd)
  | .dt p l => ∃ kvs, H p = some (.dT kvs) ∧ kvs.map Prod.fst = l.map Prod.fst ∧ DqAll K S (kvs.map Prod.snd) (l.map Prod.snd)
/-- a dict of texts is the def's own -/
def Ob.Lo (F0 : Hp) : Ob → Prop
  | .dk p _ => F0 p = none
  | _ => True
/-- the entry of a def: the heap, who may be changed, the still part -/
structure Fm where
  H0 : Hp
  M : Addr → Prop
  S0 : Hp

/-- the things that slots hold -/
structure Objs (K : PySem.W.Frag) (F : Fm) (S H : Hp) (σ : L2.St) (ρ : En) : Prop where
  at_ : ∀ (i : Nat) (o : Ob), ρ[i]? = some (.obj o) → σ[i]? = some (some (.ref o.p)) ∧ ObAt K S H o ∧ (∀ b, o.M b → S b = none ∧ (F.M b ∨ F.H0 b = none)) ∧ o.Lo F.H0
  apart : ∀ (i j : Nat) (o o' : Ob), i ≠ j → ρ[i]? = some (.obj o) → ρ[j]? = some (.obj o') → ∀ b, o.M b → ¬ o'.M b
structure Rep (K : PySem.W.Frag) (F : Fm) (S H : Hp) (σ : L2.St) (ρ : En) : Prop where
  sub : Same S H
  s0 : Same F.S0 S
  fresh : ∀ b, F.S0 b = none → S b ≠ none → F.H0 b = none
  keep : ∀ b o, F.H0 b = some o → ¬ F.M b → H b = some o
  m0 : ∀ b, F.M b → F.H0 b ≠ none
  mt : ∀ b, F.M b → H b ≠ none ∧ S b = none
  tok : CodeTabs H
  tfree : ∀ b, Tb b → F.M b
  len : σ.length = ρ.length
  at_ : ∀ (i : Nat) (d : PyData), ρ[i]? = some (.val d) → ∃ v, σ[i]? = some (some v) ∧ Dq K S v d
  own : ∀ (i : Nat) (m : Bool) (ds : List PyData), ρ[i]? = some (.own m ds) → ∃ (a : Addr) (vs : List V), σ[i]? = some (some (.ref a)) ∧ H a = some (.lst vs) ∧ S a = none ∧ DqAll K S vs ds ∧ (if m = true then F.M a else F.H0 a = none)
  apart : ∀ (i j : Nat) (m n : Bool) (ds es : List PyData), i ≠ j → ρ[i]? = some (.own m ds) → ρ[j]? = some (.own n es) → σ[i]? ≠ σ[j]?
  dic : ∀ (i : Nat) (m : List (Str × PyData)), ρ[i]? = some (.dic m) → ∃ v, σ[i]? = some (some v) ∧ DicIs K S v m
  obj : Objs K F S H σ ρ

/-! ### trees in a growing heap -/
theorem same_sqQ {K : PySem.W.Frag} {S S' : Hp} {a : Addr} {xs : List V} (e : Same S S') (h : SqQ K S a xs) : SqQ K S' a xs := by
  rcases h with (h | ⟨o, h⟩) | h
  · exact .inl (.inl (e _ _ h))
  · exact .inl (.inr ⟨o, e _ _ h⟩)
  · exact .inr h
theorem same_sqL {K : PySem.W.Frag} {S S' : Hp} {a : Addr} {xs : List V} (e : Same S S') (h : SqQ K S a xs) : SqL K S' a xs := (same_sqQ e h).l
theorem same_sqT {K : PySem.W.Frag} {S S' : Hp} {a : Addr} {xs : List V} (e : Same S S') (h : SqT K S a xs) : SqT K S' a xs := by
  rcases h with (h | ⟨o, h⟩) | h
  · exact .inl (.inl (e _ _ h))
  · exact .inl (.inr ⟨o, e _ _ h⟩)
  · exact .inr h
mutual
theorem dq_mono {K : PySem.W.Frag} {S S' : Hp} (e : Same S S') : ∀ {d : PyData} {v : V}, Dq K S v d → Dq K S' v d
  | _, _, .non => .non
  | _, _, .bl b => .bl b
  | _, _, .int i => .int i
  | _, _, .str x => .str x
  | _, _, .lst hs ha => .lst (same_sqQ e hs) (dqAll_mono e ha)
  | _, _, .tup hs ha => .tup (same_sqT e hs) (dqAll_mono e ha)
  | _, _, .ob ho ha hm => .ob (e _ _ ho) (dqAll_mono e ha) hm
  | _, _, .dc ho hk ha hm => .dc (e _ _ ho) hk (dqAll_mono e ha) hm
theorem dqAll_mono {K : PySem.W.Frag} {S S' : Hp} (e : Same S S') : ∀ {ds : List PyData} {vs : List V}, DqAll K S vs ds → DqAll K S' vs ds
  | _, _, .nil => .nil
  | _, _, .cons h1 h2 => .cons (dq_mono e h1) (dqAll_mono e h2)
end
theorem dp_mono {K : PySem.W.Frag} {S S' : Hp} (e : Same S S') (d : PyData) (v : V) (h : Dq K S v d) : Dq K S' v d := dq_mono e h
theorem dpAll_mono {K : PySem.W.Frag} {S S' : Hp} (e : Same S S') (ds : List PyData) (vs : List V) (h : DqAll K S vs ds) : DqAll K S' vs ds := dqAll_mono e h
theorem FvIs.mono {K : PySem.W.Frag} {S S' : Hp} {q : Addr} {v : V} (e : Same S S') : ∀ {x : Fv}, FvIs K S q v x → FvIs K S' q v x
  | .val _, h => dq_mono e h
  | .dic, h => h
theorem Fields.mono {K : PySem.W.Frag} {S S' : Hp} {q : Addr} (e : Same S S') : ∀ {fs : List (Str × V)} {gs : List (Str × Fv)}, Fields K S q fs gs → Fields K S' q fs gs
  | _, _, .nil => .nil
  | _, _, .cons h1 h2 => .cons (h1.mono e) (Fields.mono e h2)
theorem ObAt.frame {K : PySem.W.Frag} {S S' H H' : Hp} (e : Same S S') : ∀ {o : Ob}, (∀ b x, o.M b → H b = some x → H' b = some x) → ObAt K S H o → ObAt K S' H' o
  | .ins p C fs q kv, k, h => by
    obtain ⟨⟨dx, fs', h1, h2⟩, h3⟩ := h
    refine ⟨⟨dx, fs', k p _ (.inl rfl) h1, h2.mono e⟩, fun l hl => ?_⟩
    obtain ⟨kvs, g1, g2, g3⟩ := h3 l hl
    exact ⟨kvs, k q _ (.inr ⟨by rw [hl]; simp, rfl⟩) g1, g2, dqAll_mono e g3⟩
  | .dk p m, k, h => by
    obtain ⟨kvs, g1, g2, g3⟩ := h
    exact ⟨kvs, k p _ rfl g1, g2, dqAll_mono e g3⟩
  | .dt p l, k, h => by
    obtain ⟨kvs, g1, g2, g3⟩ := h
    exact ⟨kvs, k p _ rfl g1, g2, dqAll_mono e g3⟩
/-- what stands at its addresses is no list, no table -/
def Solid (x : HO) : Prop := (∀ vs, x ≠ .lst vs) ∧ (∀ ps, x ≠ .tbl ps) ∧ ((∃ C dx fs, x = .ins C dx fs) ∨ (∃ m, x = .dK m) ∨ ∃ m, x = .dT m)
theorem Solid.ins {C dx : Addr} {fs : List (Str × V)} : Solid (.ins C dx fs) := ⟨fun _ z => (by cases z), fun _ z => (by cases z), .inl ⟨_, _, _, rfl⟩⟩
theorem Solid.dK {m : List (Key × V)} : Solid (.dK m) := ⟨fun _ z => (by cases z), fun _ z => (by cases z), .inr (.inl ⟨_, rfl⟩)⟩
theorem Solid.dT {m : List (List Key × V)} : Solid (.dT m) := ⟨fun _ z => (by cases z), fun _ z => (by cases z), .inr (.inr ⟨_, rfl⟩)⟩
theorem CodeTabs.butO {H H' : Hp} (h : CodeTabs H) {a : Addr} {x : HO} (e : H a = some x) (so : Solid x) (k : ∀ b o, b ≠ a → H b = some o → H' b = some o) : CodeTabs H' := fun p hp => by
  obtain ⟨ps, h1, h2, h3⟩ := h p hp
  refine ⟨ps, k _ _ (fun z => ?_) h1, h2, fun pos cv hc => ?_⟩
  · rw [z, e] at h1
    cases h1
    exact so.2.1 _ rfl
  · obtain ⟨c, e1, e2⟩ := h3 pos cv hc
    refine ⟨c, e1, k _ _ (fun z => ?_) e2⟩
    rw [z, e] at e2
    rcases so.2.2 with ⟨_, _, _, rfl⟩ | ⟨_, rfl⟩ | ⟨_, rfl⟩ <;> cases e2
theorem ObAt.live {K : PySem.W.Frag} {S H : Hp} : ∀ {o : Ob}, ObAt K S H o → ∀ b, o.M b → ∃ x, H b = some x ∧ Solid x
  | .ins p C fs q kv, h, b, hb => by
    obtain ⟨⟨dx, fs', h1, h2⟩, h3⟩ := h
    rcases hb with rfl | ⟨hb, rfl⟩
    · exact ⟨_, h1, .ins⟩
    · cases kv with
      | none => exact absurd rfl hb
      | some l =>
        obtain ⟨kvs, g1, _⟩ := h3 l rfl
        exact ⟨_, g1, .dT⟩
  | .dk p m, h, b, hb => by
    obtain ⟨kvs, g1, _⟩ := h
    rw [show b = p from hb]
    exact ⟨_, g1, .dK⟩
  | .dt p l, h, b, hb => by
    obtain ⟨kvs, g1, _⟩ := h
    rw [show b = p from hb]
    exact ⟨_, g1, .dT⟩
section
variable {K : PySem.W.Frag} {F F' : Fm} {S S' H H' : Hp} {σ σ' : L2.St} {ρ ρ' : En}
/-- the heap grows, what is no list and no table stays -/
theorem Objs.heap (O : Objs K F S H σ ρ) (e : Same S S') (k : ∀ b x, H b = some x → Solid x → H' b = some x) (n : ∀ b x, H b = some x → Solid x → S b = none → S' b = none) : Objs K F S' H' σ ρ :=
  ⟨fun i o h => by
    obtain ⟨h1, h2, h3, h4⟩ := O.at_ i o h
    refine ⟨h1, h2.frame e fun b x hb hx => ?_, fun b hb => ?_, h4⟩
    · obtain ⟨y, hy, so⟩ := h2.live b hb
      rw [hx] at hy
      cases hy
      exact k b x hx so
    · obtain ⟨y, hy, so⟩ := h2.live b hb
      exact ⟨n b y hy so (h3 b hb).1, (h3 b hb).2⟩, O.apart⟩
/-- a new one in the still part -/
theorem Objs.new (O : Objs K F S H σ ρ) {p : Addr} (n : H p = none) (hs : S p = none) (o : HO) : Objs K F (upd S p o) (upd H p o) σ ρ :=
  O.heap (fun b x e => by rw [upd_ne (ne_of_none e hs)]; exact e) (fun b x e _ => by rw [upd_ne (ne_of_none e n)]; exact e) fun b x e _ hb => by rw [upd_ne (ne_of_none e n)]; exact hb
/-- a list is laid, changed -/
theorem Objs.lay (O : Objs K F S H σ ρ) {p : Addr} (n : ∀ x, H p = some x → ¬ Solid x) (o : HO) : Objs K F S (upd H p o) σ ρ :=
  O.heap (fun _ _ e => e) (fun b x e so => by
    by_cases hb : b = p
    · exact absurd so (n x (hb ▸ e))
    · rw [upd_ne hb]
      exact e) fun _ _ _ _ h => h
/-- a list stands still -/
theorem Objs.still (O : Objs K F S H σ ρ) {p : Addr} (hs : S p = none) (n : ∀ x, H p = some x → ¬ Solid x) (o : HO) : Objs K F (upd S p o) H σ ρ :=
  O.heap (fun b x e => by rw [upd_ne (ne_of_none e hs)]; exact e) (fun _ _ e _ => e) fun b x e so hb => by
    by_cases z : b = p
    · exact absurd so (n x (z ▸ e))
    · rw [upd_ne z]
      exact hb
theorem lst_soft {H : Hp} {p : Addr} {vs : List V} (h : H p = some (.lst vs)) : ∀ x, H p = some x → ¬ Solid x := fun x e so => by
  rw [h] at e
  cases e
  exact so.1 vs rfl
/-- slots change, but for the things -/
theorem Objs.rho (O : Objs K F S H σ ρ) (k : ∀ (i : Nat) (o : Ob), ρ'[i]? = some (.obj o) → ρ[i]? = some (.obj o) ∧ σ'[i]? = σ[i]?) : Objs K F S H σ' ρ' :=
  ⟨fun i o h => by
    obtain ⟨h1, h2⟩ := k i o h
    rw [h2]
    exact O.at_ i o h1, fun i j o o' hne h h' => O.apart i j o o' hne (k i o h).1 (k j o' h').1⟩
/-- one slot gets what is no thing -/
theorem Objs.put (O : Objs K F S H σ ρ) (i : Nat) (x : Option V) {y : Sl} (hy : ∀ o, y ≠ .obj o) : Objs K F S H (σ.set i x) (ρ.set i y) :=
  O.rho fun j o h => by
    by_cases e : j = i
    · subst e
      by_cases hl : j < ρ.length
      · rw [List.getElem?_set_self hl] at h
        exact absurd (Option.some.inj h) (hy o)
      · rw [List.getElem?_eq_none (by simpa using hl)] at h
        cases h
    · rw [List.getElem?_set_ne (Ne.symm e)] at h
      exact ⟨h, List.getElem?_set_ne (Ne.symm e)⟩
theorem Objs.put' (O : Objs K F S H σ ρ) (i : Nat) {y : Sl} (hy : ∀ o, y ≠ .obj o) : Objs K F S H σ (ρ.set i y) :=
  O.rho fun j o h => by
    by_cases e : j = i
    · subst e
      by_cases hl : j < ρ.length
      · rw [List.getElem?_set_self hl] at h
        exact absurd (Option.some.inj h) (hy o)
      · rw [List.getElem?_eq_none (by simpa using hl)] at h
        cases h
    · rw [List.getElem?_set_ne (Ne.symm e)] at h
      exact ⟨h, rfl⟩
theorem Objs.nobody (h : ∀ (i : Nat) (o : Ob), ρ[i]? ≠ some (.obj o)) : Objs K F S H σ ρ := ⟨fun i o e => absurd e (h i o), fun i j o o' _ e => absurd e (h i o)⟩
end
theorem dic_mono {K : PySem.W.Frag} {S S' : Hp} {v : V} {m : List (Str × PyData)} (e : Same S S') (h : DicIs K S v m) : DicIs K S' v m := by
  obtain ⟨a, kvs, h1, h2, h3, h4⟩ := h
  exact ⟨a, kvs, h1, e _ _ h2, h3, dpAll_mono e _ _ h4⟩
theorem DqAll.len {K : PySem.W.Frag} {S : Hp} : ∀ {vs : List V} {ds : List PyData}, DqAll K S vs ds → vs.length = ds.length
  | _, [], h => by cases h; rfl
  | _, d :: ds, h => by
    cases h with
    | cons _ h2 => rw [List.length_cons, List.length_cons, DqAll.len h2]
theorem DqAll.at {K : PySem.W.Frag} {S : Hp} : ∀ {vs : List V} {ds : List PyData} {i : Nat} {d : PyData}, DqAll K S vs ds → ds[i]? = some d → ∃ v, vs[i]? = some v ∧ Dq K S v d
  | _, [], i, _, _, e => by simp at e
  | _, x :: ds, 0, d, h, e => by
    cases h with
    | cons h1 _ =>
      simp at e
      subst e
      exact ⟨_, rfl, h1⟩
  | _, x :: ds, i + 1, d, h, e => by
    cases h with
    | cons _ h2 =>
      obtain ⟨v, h3, h4⟩ := DqAll.at (i := i) h2 (by simpa using e)
      exact ⟨v, by simpa using h3, h4⟩
theorem DqAll.at' {K : PySem.W.Frag} {S : Hp} {vs : List V} {ds : List PyData} {i : Nat} {v : V} (h : DqAll K S vs ds) (e : vs[i]? = some v) : ∃ d, ds[i]? = some d ∧ Dq K S v d := by
  have hi : i < ds.length := by
    rw [← h.len]
    exact (List.getElem?_eq_some_iff.mp e).1
  obtain ⟨w, h1, h2⟩ := h.at (List.getElem?_eq_getElem hi)
  rw [e] at h1
  cases h1
  exact ⟨_, List.getElem?_eq_getElem hi, h2⟩
theorem DqAll.snoc {K : PySem.W.Frag} {S : Hp} : ∀ {vs : List V} {ds : List PyData} {v : V} {d : PyData}, DqAll K S vs ds → Dq K S v d → DqAll K S (vs ++ [v]) (ds ++ [d])
  | _, [], _, _, h, q => by cases h; exact .cons q .nil
  | _, x :: ds, _, _, h, q => by
    cases h with
    | cons h1 h2 => exact .cons h1 (DqAll.snoc h2 q)
theorem DqAll.append {K : PySem.W.Frag} {S : Hp} : ∀ {vs : List V} {ds : List PyData} {ws : List V} {es : List PyData}, DqAll K S vs ds → DqAll K S ws es → DqAll K S (vs ++ ws) (ds ++ es)
  | _, [], _, _, h, q => by cases h; exact q
  | _, x :: ds, _, _, h, q => by
    cases h with
    | cons h1 h2 => exact .cons h1 (DqAll.append h2 q)
theorem DqAll.take {K : PySem.W.Frag} {S : Hp} : ∀ {vs : List V} {ds : List PyData} (n : Nat), DqAll K S vs ds → DqAll K S (vs.take n) (ds.take n)
  | _, _, 0, _ => .nil
  | _, [], n + 1, h => by cases h; exact .nil
  | _, x :: ds, n + 1, h => by
    cases h with
    | cons h1 h2 => exact .cons h1 (DqAll.take n h2)
theorem DqAll.drop {K : PySem.W.Frag} {S : Hp} : ∀ {vs : List V} {ds : List PyData} (n : Nat), DqAll K S vs ds → DqAll K S (vs.drop n) (ds.drop n)
  | _, _, 0, h => h
  | _, [], n + 1, h => by cases h; exact .nil
  | _, x :: ds, n + 1, h => by
    cases h with
    | cons h1 h2 => exact DqAll.drop n h2
theorem DqAll.set {K : PySem.W.Frag} {S : Hp} : ∀ {vs : List V} {ds : List PyData} {v : V} {d : PyData} (n : Nat), DqAll K S vs ds → Dq K S v d → DqAll K S (vs.set n v) (ds.set n d)
  | _, [], _, _, n, h, _ => by cases h; exact .nil
  | _, x :: ds, _, _, 0, h, q => by
    cases h with
    | cons h1 h2 => exact .cons q h2
  | _, x :: ds, _, _, n + 1, h, q => by
    cases h with
    | cons h1 h2 => exact .cons h1 (DqAll.set n h2 q)
theorem DqAll.eraseIdx {K : PySem.W.Frag} {S : Hp} : ∀ {vs : List V} {ds : List PyData} (n : Nat), DqAll K S vs ds → DqAll K S (vs.eraseIdx n) (ds.eraseIdx n)
  | _, [], n, h => by cases h; exact .nil
  | _, x :: ds, 0, h => by
    cases h with
    | cons h1 h2 => exact h2
  | _, x :: ds, n + 1, h => by
    cases h with
    | cons h1 h2 => exact .cons h1 (DqAll.eraseIdx n h2)
theorem DqAll.reverse {K : PySem.W.Frag} {S : Hp} : ∀ {vs : List V} {ds : List PyData}, DqAll K S vs ds → DqAll K S vs.reverse ds.reverse
  | _, [], h => by cases h; exact .nil
  | _, x :: ds, h => by
    cases h with
    | cons h1 h2 =>
      rw [List.reverse_cons, List.reverse_cons]
      exact DqAll.snoc (DqAll.reverse h2) h1

theorem same_new {H : Hp} {p : Addr} {o : HO} (h : H p = none) : Same H (upd H p o) := fun b x e => by
  rw [upd_ne (ne_of_none e h)]
  exact e
theorem same_upd2 {S H : Hp} {p : Addr} {o : HO} (h : Same S H) : Same (upd S p o) (upd H p o) := fun b x e => by
  by_cases hb : b = p
  · subst hb
    rw [upd_same] at e ⊢
    exact e
  · rw [upd_ne hb] at e ⊢
    exact h b x e
theorem same_none {S H : Hp} {p : Addr} (h : Same S H) (n : H p = none) : S p = none := by
  cases e : S p with
  | none => rfl
  | some o =>
    rw [h p o e] at n
    cases n

section
variable {K : PySem.W.Frag} {F : Fm} {S H : Hp} {σ : L2.St} {ρ : En}
theorem Rep.h0 (R : Rep K F S H σ ρ) {p : Addr} (n : H p = none) : F.H0 p = none := by
  cases e : F.H0 p with
  | none => rfl
  | some o =>
    by_cases hm : F.M p
    · exact absurd n (R.mt p hm).1
    · rw [R.keep p o e hm] at n
      cases n
theorem Rep.nm (R : Rep K F S H σ ρ) {p : Addr} (n : H p = none) : ¬ F.M p := fun hm => (R.mt p hm).1 n
/-- a new object that stands still from now on -/
theorem Rep.new (R : Rep K F S H σ ρ) {p : Addr} (n : H p = none) (o : HO) : Rep K F (upd S p o) (upd H p o) σ ρ where
  sub := same_upd2 R.sub
  s0 := R.s0.trans (same_new (same_none R.sub n))
  fresh := fun b h1 h2 => by
    by_cases hb : b = p
    · subst hb
      exact R.h0 n
    · rw [upd_ne hb] at h2
      exact R.fresh b h1 h2
  keep := fun b x e hm => by
    rw [upd_ne (ne_of_none (R.keep b x e hm) n)]
    exact R.keep b x e hm
  m0 := R.m0
  mt := fun b hm => by
    have hb : b ≠ p := fun z => R.nm n (z ▸ hm)
    rw [upd_ne hb, upd_ne hb]
    exact R.mt b hm
  tok := R.tok.same (same_new n)
  tfree := R.tfree
  len := R.len
  at_ := fun i d e => by
    obtain ⟨v, h1, h2⟩ := R.at_ i d e
    exact ⟨v, h1, dp_mono (same_new (same_none R.sub n)) d v h2⟩
  own := fun i m ds e => by
    obtain ⟨a, vs, h1, h2, h3, h4, h5⟩ := R.own i m ds e
    have hb : a ≠ p := ne_of_none h2 n
    exact ⟨a, vs, h1, by rw [upd_ne hb]; exact h2, by rw [upd_ne hb]; exact h3, dpAll_mono (same_new (same_none R.sub n)) ds vs h4, h5⟩
  apart := R.apart
  dic := fun i m e => by
    obtain ⟨v, h1, h2⟩ := R.dic i m e
    exact ⟨v, h1, dic_mono (same_new (same_none R.sub n)) h2⟩
  obj := R.obj.new n (same_none R.sub n) o
/-- a new object that is not yet anybody's -/
theorem Rep.lay (R : Rep K F S H σ ρ) {p : Addr} (n : H p = none) (o : HO) : Rep K F S (upd H p o) σ ρ where
  sub := fun b x e => by
    rw [upd_ne (ne_of_none (R.sub b x e) n)]
    exact R.sub b x e
  s0 := R.s0
  fresh := R.fresh
  keep := fun b x e hm => by
    rw [upd_ne (ne_of_none (R.keep b x e hm) n)]
    exact R.keep b x e hm
  m0 := R.m0
  mt := fun b hm => by
    have hb : b ≠ p := fun z => R.nm n (z ▸ hm)
    rw [upd_ne hb]
    exact R.mt b hm
  tok := R.tok.same (same_new n)
  tfree := R.tfree
  len := R.len
  at_ := R.at_
  own := fun i m ds e => by
    obtain ⟨a, vs, h1, h2, h3, h4, h5⟩ := R.own i m ds e
    exact ⟨a, vs, h1, by rw [upd_ne (ne_of_none h2 n)]; exact h2, h3, h4, h5⟩
  apart := R.apart
  dic := R.dic
  obj := R.obj.lay (fun x e => by rw [n] at e; cases e) o
/-- an object that is nobody's is changed -/
theorem Rep.poke (R : Rep K F S H σ ρ) {p : Addr} {vs0 : List V} (hp : H p = some (.lst vs0)) (hs : S p = none) (h0 : F.H0 p = none) (ho : ∀ (i : Nat) (m : Bool) (ds : List PyData), ρ[i]? = some (.own m ds) → σ[i]? ≠ some (some (.ref p))) (o : HO) : Rep K F S (upd H p o) σ ρ where
  sub := fun b x e => by
    rw [upd_ne (ne_of_none e hs)]
    exact R.sub b x e
  s0 := R.s0
  fresh := R.fresh
  keep := fun b x e hm => by
    rw [upd_ne (ne_of_none e h0)]
    exact R.keep b x e hm
  m0 := R.m0
  mt := fun b hb => by
    have hb' : b ≠ p := fun z => R.m0 b hb (z ▸ h0)
    rw [upd_ne hb']
    exact R.mt b hb
  tok := R.tok.but hp fun b o hb e => by rw [upd_ne hb]; exact e
  tfree := R.tfree
  len := R.len
  at_ := R.at_
  own := fun i m ds e => by
    obtain ⟨a, vs, h1, h2, h3, h4, h5⟩ := R.own i m ds e
    have hb : a ≠ p := fun z => ho i m ds e (by rw [h1, z])
    exact ⟨a, vs, h1, by rw [upd_ne hb]; exact h2, h3, h4, h5⟩
  apart := R.apart
  dic := R.dic
  obj := R.obj.lay (lst_soft hp) o
/-- it stands still from now on -/
theorem Rep.still (R : Rep K F S H σ ρ) {p : Addr} {ls : List V} (hp : H p = some (.lst ls)) (hs : S p = none) (h0 : F.H0 p = none) (ho : ∀ (i : Nat) (m : Bool) (ds : List PyData), ρ[i]? = some (.own m ds) → σ[i]? ≠ some (some (.ref p))) : Rep K F (upd S p (.lst ls)) H σ ρ where
  sub := fun b x e => by
    by_cases hb : b = p
    · subst hb
      rw [upd_same] at e
      cases e
      exact hp
    · rw [upd_ne hb] at e
      exact R.sub b x e
  s0 := R.s0.trans (same_new hs)
  fresh := fun b h1 h2 => by
    by_cases hb : b = p
    · subst hb
      exact h0
    · rw [upd_ne hb] at h2
      exact R.fresh b h1 h2
  keep := R.keep
  m0 := R.m0
  mt := fun b hb => by
    have hb' : b ≠ p := fun z => R.m0 b hb (z ▸ h0)
    rw [upd_ne hb']
    exact R.mt b hb
  tok := R.tok
  tfree := R.tfree
  len := R.len
  at_ := fun i d e => by
    obtain ⟨v, h1, h2⟩ := R.at_ i d e
    exact ⟨v, h1, dp_mono (same_new hs) d v h2⟩
  own := fun i m ds e => by
    obtain ⟨a, vs, h1, h2, h3, h4, h5⟩ := R.own i m ds e
    have hb : a ≠ p := fun z => ho i m ds e (by rw [h1, z])
    exact ⟨a, vs, h1, h2, by rw [upd_ne hb]; exact h3, dpAll_mono (same_new hs) ds vs h4, h5⟩
  apart := R.apart
  dic := fun i m e => by
    obtain ⟨v, h1, h2⟩ := R.dic i m e
    exact ⟨v, h1, dic_mono (same_new hs) h2⟩
  obj := R.obj.still hs (lst_soft hp) _
theorem get_set {α : Type} {l : List α} {i j : Nat} {x y : α} (h : (l.set i x)[j]? = some y) : (j = i ∧ y = x ∧ i < l.length) ∨ (j ≠ i ∧ l[j]? = some y) := by
  by_cases e : j = i
  · subst e
    by_cases hl : j < l.length
    · rw [List.getElem?_set_self hl] at h
      cases h
      exact .inl ⟨rfl, rfl, hl⟩
    · rw [List.getElem?_eq_none (by simpa using hl)] at h
      cases h
  · rw [List.getElem?_set_ne (Ne.symm e)] at h
    exact .inr ⟨e, h⟩
/-- a slot gets a tree -/
theorem Rep.set (R : Rep K F S H σ ρ) (i : Nat) {v : V} {d : PyData} (h : Dq K S v d) : Rep K F S H (σ.set i (some v)) (ρ.set i (.val d)) where
  sub := R.sub
  s0 := R.s0
  fresh := R.fresh
  keep := R.keep
  m0 := R.m0
  mt := R.mt
  tok := R.tok
  tfree := R.tfree
  len := by rw [List.length_set, List.length_set, R.len]
  at_ := fun j e q => by
    rcases get_set q with ⟨rfl, q, hl⟩ | ⟨hj, q⟩
    · cases q
      exact ⟨v, List.getElem?_set_self (by rw [R.len]; exact hl), h⟩
    · obtain ⟨w, h1, h2⟩ := R.at_ j e q
      exact ⟨w, by rw [List.getElem?_set_ne (Ne.symm hj)]; exact h1, h2⟩
  own := fun j m ds q => by
    rcases get_set q with ⟨rfl, q, _⟩ | ⟨hj, q⟩
    · cases q
    · obtain ⟨a, vs, h1, h2⟩ := R.own j m ds q
      exact ⟨a, vs, by rw [List.getElem?_set_ne (Ne.symm hj)]; exact h1, h2⟩
  apart := fun j k m n ds es hne q q' => by
    rcases get_set q with ⟨rfl, q, _⟩ | ⟨hj, q⟩
    · cases q
    · rcases get_set q' with ⟨rfl, q', _⟩ | ⟨hk, q'⟩
      · cases q'
      · rw [List.getElem?_set_ne (Ne.symm hj), List.getElem?_set_ne (Ne.symm hk)]
        exact R.apart j k m n ds es hne q q'
  dic := fun j m q => by
    rcases get_set q with ⟨rfl, q, _⟩ | ⟨hj, q⟩
    · cases q
    · obtain ⟨w, h1, h2⟩ := R.dic j m q
      exact ⟨w, by rw [List.getElem?_set_ne (Ne.symm hj)]; exact h1, h2⟩
  obj := R.obj.put i _ (fun _ z => by cases z)
/-- a slot is forgotten -/
theorem Rep.drop (R : Rep K F S H σ ρ) (i : Nat) (x : Option V) : Rep K F S H (σ.set i x) (ρ.set i .un) where
  sub := R.sub
  s0 := R.s0
  fresh := R.fresh
  keep := R.keep
  m0 := R.m0
  mt := R.mt
  tok := R.tok
  tfree := R.tfree
  len := by rw [List.length_set, List.length_set, R.len]
  at_ := fun j e q => by
    rcases get_set q with ⟨rfl, q, hl⟩ | ⟨hj, q⟩
    · cases q
    · obtain ⟨w, h1, h2⟩ := R.at_ j e q
      exact ⟨w, by rw [List.getElem?_set_ne (Ne.symm hj)]; exact h1, h2⟩
  own := fun j m ds q => by
    rcases get_set q with ⟨rfl, q, _⟩ | ⟨hj, q⟩
    · cases q
    · obtain ⟨a, vs, h1, h2⟩ := R.own j m ds q
      exact ⟨a, vs, by rw [List.getElem?_set_ne (Ne.symm hj)]; exact h1, h2⟩
  apart := fun j k m n ds es hne q q' => by
    rcases get_set q with ⟨rfl, q, _⟩ | ⟨hj, q⟩
    · cases q
    · rcases get_set q' with ⟨rfl, q', _⟩ | ⟨hk, q'⟩
      · cases q'
      · rw [List.getElem?_set_ne (Ne.symm hj), List.getElem?_set_ne (Ne.symm hk)]
        exact R.apart j k m n ds es hne q q'
  dic := fun j m q => by
    rcases get_set q with ⟨rfl, q, _⟩ | ⟨hj, q⟩
    · cases q
    · obtain ⟨w, h1, h2⟩ := R.dic j m q
      exact ⟨w, by rw [List.getElem?_set_ne (Ne.symm hj)]; exact h1, h2⟩
  obj := R.obj.put i _ (fun _ z => by cases z)
/-- a slot gets a list of its own -/
theorem Rep.setOwn (R : Rep K F S H σ ρ) (i : Nat) {p : Addr} {vs : List V} {ds : List PyData} (hp : H p = some (.lst vs)) (hs : S p = none) (h0 : F.H0 p = none) (ho : ∀ (i : Nat) (m : Bool) (ds : List PyData), ρ[i]? = some (.own m ds) → σ[i]? ≠ some (some (.ref p))) (hd : DqAll K S vs ds) :
    Rep K F S H (σ.set i (some (.ref p))) (ρ.set i (.own false ds)) where
  sub := R.sub
  s0 := R.s0
  fresh := R.fresh
  keep := R.keep
  m0 := R.m0
  mt := R.mt
  tok := R.tok
  tfree := R.tfree
  len := by rw [List.length_set, List.length_set, R.len]
  at_ := fun j e q => by
    rcases get_set q with ⟨rfl, q, hl⟩ | ⟨hj, q⟩
    · cases q
    · obtain ⟨w, h1, h2⟩ := R.at_ j e q
      exact ⟨w, by rw [List.getElem?_set_ne (Ne.symm hj)]; exact h1, h2⟩
  own := fun j m es q => by
    rcases get_set q with ⟨rfl, q, hl⟩ | ⟨hj, q⟩
    · cases q
      exact ⟨p, vs, List.getElem?_set_self (by rw [R.len]; exact hl), hp, hs, hd, h0⟩
    · obtain ⟨a, vs, h1, h2⟩ := R.own j m es q
      exact ⟨a, vs, by rw [List.getElem?_set_ne (Ne.symm hj)]; exact h1, h2⟩
  apart := fun j k m n es fs hne q q' => by
    rcases get_set q with ⟨rfl, q2, hl⟩ | ⟨hj, q2⟩
    · rcases get_set q' with ⟨rfl, q3, _⟩ | ⟨hk, q3⟩
      · exact absurd rfl hne
      · rw [List.getElem?_set_self (by rw [R.len]; exact hl), List.getElem?_set_ne (Ne.symm hk)]
        exact fun z => ho k n fs q3 z.symm
    · rcases get_set q' with ⟨rfl, q3, hl⟩ | ⟨hk, q3⟩
      · rw [List.getElem?_set_self (by rw [R.len]; exact hl), List.getElem?_set_ne (Ne.symm hj)]
        exact ho j m es q2
      · rw [List.getElem?_set_ne (Ne.symm hj), List.getElem?_set_ne (Ne.symm hk)]
        exact R.apart j k m n es fs hne q2 q3
  dic := fun j m q => by
    rcases get_set q with ⟨rfl, q, _⟩ | ⟨hj, q⟩
    · cases q
    · obtain ⟨w, h1, h2⟩ := R.dic j m q
      exact ⟨w, by rw [List.getElem?_set_ne (Ne.symm hj)]; exact h1, h2⟩
  obj := R.obj.put i _ (fun _ z => by cases z)
/-- a slot's own list is changed -/
theorem Rep.mut (R : Rep K F S H σ ρ) {i : Nat} {m : Bool} {ds ds' : List PyData} {a : Addr} {vs' : List V} (e : ρ[i]? = some (.own m ds)) (ea : σ[i]? = some (some (.ref a))) (hd : DqAll K S vs' ds') :
    Rep K F S (upd H a (.lst vs')) σ (ρ.set i (.own m ds')) := by
  obtain ⟨a', vs, h1, h2, h3, h4, h5⟩ := R.own i m ds e
  rw [ea] at h1
  cases h1
  have oth : ∀ (j : Nat) (n : Bool) (es : List PyData), j ≠ i → ρ[j]? = some (.own n es) → σ[j]? ≠ some (some (.ref a)) := fun j n es hj q z => R.apart j i n m es ds hj q e (by rw [z, ea])
  refine ⟨fun b x q => ?_, R.s0, R.fresh, fun b x q hm => ?_, R.m0, fun b hm => ?_, R.tok.but h2 fun b o hb z => by rw [upd_ne hb]; exact z, R.tfree, by rw [List.length_set, R.len], fun j d q => ?_, fun j n es q => ?_, fun j k n n' es fs hne q q' => ?_, fun j w q => ?_, (R.obj.lay (lst_soft h2) _).put' i (fun _ z => by cases z)⟩
  · rw [upd_ne (ne_of_none q h3)]
    exact R.sub b x q
  · have hb : b ≠ a := fun z => by
      subst z
      cases m with
      | true => exact hm h5
      | false =>
        rw [show F.H0 b = none from h5] at q
        cases q
    rw [upd_ne hb]
    exact R.keep b x q hm
  · by_cases hb : b = a
    · subst hb
      rw [upd_same]
      exact ⟨by simp, (R.mt b hm).2⟩
    · rw [upd_ne hb]
      exact R.mt b hm
  · rcases get_set q with ⟨rfl, q, hl⟩ | ⟨hj, q⟩
    · cases q
    · exact R.at_ j d q
  · rcases get_set q with ⟨rfl, q, hl⟩ | ⟨hj, q⟩
    · cases q
      exact ⟨a, vs', ea, upd_same, h3, hd, h5⟩
    · obtain ⟨c, ws, g1, g2, g3⟩ := R.own j n es q
      have hb : c ≠ a := fun z => oth j n es hj q (by rw [g1, z])
      exact ⟨c, ws, g1, by rw [upd_ne hb]; exact g2, g3⟩
  · have back : ∀ {k : Nat} {n : Bool} {fs : List PyData}, (ρ.set i (.own m ds'))[k]? = some (.own n fs) → ∃ n' fs', ρ[k]? = some (.own n' fs') := fun {k n fs} z => by
      rcases get_set z with ⟨rfl, _, _⟩ | ⟨_, z⟩
      · exact ⟨m, ds, e⟩
      · exact ⟨n, fs, z⟩
    obtain ⟨n1, f1, z1⟩ := back q
    obtain ⟨n2, f2, z2⟩ := back q'
    exact R.apart j k n1 n2 f1 f2 hne z1 z2
  · rcases get_set q with ⟨rfl, q, hl⟩ | ⟨hj, q⟩
    · cases q
    · exact R.dic j w q
/-- a slot's own list stands still from now on -/
theorem Rep.freeze (R : Rep K F S H σ ρ) {i : Nat} {ds : List PyData} (e : ρ[i]? = some (.own false ds)) :
    ∃ a vs, σ[i]? = some (some (.ref a)) ∧ Same S (upd S a (.lst vs)) ∧ Rep K F (upd S a (.lst vs)) H σ (ρ.set i (.val (.list ds))) ∧ Dq K (upd S a (.lst vs)) (.ref a) (.list ds) := by
  obtain ⟨a, vs, h1, h2, h3, h4, h5⟩ := R.own i false ds e
  have sn : Same S (upd S a (.lst vs)) := same_new h3
  have hd : Dq K (upd S a (.lst vs)) (.ref a) (.list ds) := .lst (SqQ.of upd_same) (dpAll_mono sn ds vs h4)
  refine ⟨a, vs, h1, sn, ?_, hd⟩
  have oth : ∀ (j : Nat) (n : Bool) (es : List PyData), j ≠ i → ρ[j]? = some (.own n es) → σ[j]? ≠ some (some (.ref a)) := fun j n es hj q z => R.apart j i n false es ds hj q e (by rw [z, h1])
  refine ⟨fun b x q => ?_, R.s0.trans sn, fun b q1 q2 => ?_, R.keep, R.m0, fun b hm => ?_, R.tok, R.tfree, by rw [List.length_set, R.len], fun j d q => ?_, fun j n es q => ?_, fun j k n n' es fs hne q q' => ?_, fun j w q => ?_, (R.obj.still h3 (lst_soft h2) _).put' i (fun _ z => by cases z)⟩
  · by_cases hb : b = a
    · subst hb
      rw [upd_same] at q
      cases q
      exact h2
    · rw [upd_ne hb] at q
      exact R.sub b x q
  · by_cases hb : b = a
    · subst hb
      exact h5
    · rw [upd_ne hb] at q2
      exact R.fresh b q1 q2
  · have hb : b ≠ a := fun z => R.m0 b hm (z ▸ h5)
    rw [upd_ne hb]
    exact R.mt b hm
  · rcases get_set q with ⟨rfl, q, hl⟩ | ⟨hj, q⟩
    · cases q
      exact ⟨_, h1, hd⟩
    · obtain ⟨w, g1, g2⟩ := R.at_ j d q
      exact ⟨w, g1, dp_mono sn d w g2⟩
  · rcases get_set q with ⟨rfl, q, hl⟩ | ⟨hj, q⟩
    · cases q
    · obtain ⟨c, ws, g1, g2, g3, g4, g5⟩ := R.own j n es q
      have hb : c ≠ a := fun z => oth j n es hj q (by rw [g1, z])
      exact ⟨c, ws, g1, g2, by rw [upd_ne hb]; exact g3, dpAll_mono sn es ws g4, g5⟩
  · rcases get_set q with ⟨rfl, q, hl⟩ | ⟨hj, q⟩
    · cases q
    · rcases get_set q' with ⟨rfl, q', hl⟩ | ⟨hk, q'⟩
      · cases q'
      · exact R.apart j k n n' es fs hne q q'
  · rcases get_set q with ⟨rfl, q, hl⟩ | ⟨hj, q⟩
    · cases q
    · obtain ⟨u, g1, g2⟩ := R.dic j w q
      exact ⟨u, g1, dic_mono sn g2⟩
end
end Tr
set_option Elab.async false
set_option linter.all false
set_option maxRecDepth 100000
set_option maxHeartbeats 2000000
/-! Tr2: the judgements over trees, expressions -/
namespace Tr
open PySem PySem.Spec PyProof.Rows L2
variable [Tabbed]

abbrev W1 := En → (PyData → En → Prop) → Prop
abbrev WT := En → (Bool → En → Prop) → Prop
abbrev WA := En → (List PyData → En → Prop) → Prop
/-- a tree comes -/
def Snd (K : PySem.W.Frag) (t : TE) (w : W1) : Prop :=
  ∀ (F : Fm) (ρ : En) (P : PyData → En → Prop) (σ : L2.St) (S H : Hp) (Q : VK), w ρ P → Rep K F S H σ ρ →
    (∀ d ρ' v S' H', P d ρ' → Rep K F S' H' σ ρ' → Same S S' → Dq K S' v d → Q v H') → t σ H Q
/-- a truth comes -/
def SndT (K : PySem.W.Frag) (t : TT) (w : WT) : Prop :=
  ∀ (F : Fm) (ρ : En) (P : Bool → En → Prop) (σ : L2.St) (S H : Hp) (Q : Bool → Hp → Prop), w ρ P → Rep K F S H σ ρ →
    (∀ b ρ' S' H', P b ρ' → Rep K F S' H' σ ρ' → Same S S' → Q b H') → t σ H Q
/-- arguments come -/
def SndA (K : PySem.W.Frag) (t : TA) (w : WA) : Prop :=
  ∀ (F : Fm) (ρ : En) (P : List PyData → En → Prop) (σ : L2.St) (S H : Hp) (Q : List V → Hp → Prop), w ρ P → Rep K F S H σ ρ →
    (∀ ds ρ' vs S' H', P ds ρ' → Rep K F S' H' σ ρ' → Same S S' → DqAll K S' vs ds → Q vs H') → t σ H Q
/-- nobody's: a list that has just been made -/
structure Bare (F : Fm) (S H : Hp) (σ : L2.St) (ρ : En) (p : Addr) (vs : List V) : Prop where
  at_ : H p = some (.lst vs)
  s : S p = none
  h0 : F.H0 p = none
  ap : ∀ (i : Nat) (m : Bool) (ds : List PyData), ρ[i]? = some (.own m ds) → σ[i]? ≠ some (some (.ref p))
/-- a new list comes -/
def SndN (K : PySem.W.Frag) (t : TE) (w : WA) : Prop :=
  ∀ (F : Fm) (ρ : En) (P : List PyData → En → Prop) (σ : L2.St) (S H : Hp) (Q : VK), w ρ P → Rep K F S H σ ρ →
    (∀ ds ρ' p vs S' H', P ds ρ' → Rep K F S' H' σ ρ' → Same S S' → Bare F S' H' σ ρ' p vs → DqAll K S' vs ds → Q (.ref p) H') → t σ H Q
/-- a tree comes that is to be looked at at once: it may be a list that a slot holds alone -/
def SndR (K : PySem.W.Frag) (t : TE) (w : W1) : Prop :=
  ∀ (F : Fm) (ρ : En) (P : PyData → En → Prop) (σ : L2.St) (S H : Hp) (Q : VK), w ρ P → Rep K F S H σ ρ →
    (∀ d ρ' v S' H', P d ρ' → Rep K F S' H' σ ρ' → Same S S' → Dq K H' v d → Q v H') → t σ H Q

structure EV (X : Cx) (e : Expr) (t : TE) (w : W1) : Prop where
  pe : PE X e t
  sd : Snd X.K t w
structure EN (X : Cx) (e : Expr) (t : TE) (w : WA) : Prop where
  pe : PE X e t
  sd : SndN X.K t w
structure ER (X : Cx) (e : Expr) (t : TE) (w : W1) : Prop where
  pe : PE X e t
  sd : SndR X.K t w
structure ET (X : Cx) (e : Expr) (t : TT) (w : WT) : Prop where
  pt : PT X e t
  sd : SndT X.K t w
structure EA (X : Cx) (es : List Expr) (t : TA) (w : WA) : Prop where
  pa : PA X es t
  sd : SndA X.K t w

section
variable {K : PySem.W.Frag} {F : Fm} {S H : Hp} {σ : L2.St} {ρ : En}
theorem Rep.bare (R : Rep K F S H σ ρ) {p : Addr} (n : H p = none) {vs : List V} : Bare F S (upd H p (.lst vs)) σ ρ p vs where
  at_ := upd_same
  s := same_none R.sub n
  h0 := R.h0 n
  ap := fun i m ds e z => by
    obtain ⟨a, ws, h1, h2, _⟩ := R.own i m ds e
    rw [h1] at z
    cases z
    rw [n] at h2
    cases h2
theorem Bare.still (R : Rep K F S H σ ρ) {p : Addr} {vs : List V} (B : Bare F S H σ ρ p vs) : Rep K F (upd S p (.lst vs)) H σ ρ := R.still B.at_ B.s B.h0 B.ap
end

section
variable {X : Cx} {e : Expr} {t : TE} {w : W1}
/-- a new list, as a tree -/
def wN (w : WA) : W1 := fun ρ P => w ρ fun ds ρ' => P (.list ds) ρ'
theorem EN.ev {w : WA} (h : EN X e t w) : EV X e t (wN w) := ⟨h.pe, fun F ρ P σ S H Q hw R q => h.sd F ρ _ σ S H Q hw R fun ds ρ' p vs S' H' hp R' sm B hd =>
  q (.list ds) ρ' (.ref p) _ H' hp (B.still R') (sm.trans (same_new B.s)) (.lst (SqQ.of upd_same) (dpAll_mono (same_new B.s) ds vs hd))⟩
theorem EV.er (h : EV X e t w) : ER X e t w := ⟨h.pe, fun F ρ P σ S H Q hw R q => h.sd F ρ _ σ S H Q hw R fun d ρ' v S' H' hp R' sm hd => q d ρ' v S' H' hp R' sm (dp_mono R'.sub d v hd)⟩
end

/-! ### what is asked of a tree, of a slot -/
def ownAt (ρ : En) (i : Nat) (k : Bool → List PyData → Prop) : Prop := match ρ[i]? with
  | some (.own m ds) => k m ds
  | _ => False
def asInt (d : PyData) (k : Int → Prop) : Prop := match d with
  | .int i => k i
  | _ => False
def asNat (d : PyData) (k : Nat → Prop) : Prop := match d with
  | .int i => 0 ≤ i ∧ k i.toNat
  | _ => False
def asList (d : PyData) (k : List PyData → Prop) : Prop := match d with
  | .list ds => k ds
  | _ => False
def asTuple (d : PyData) (k : List PyData → Prop) : Prop := match d with
  | .tuple ds => k ds
  | _ => False
def someOf {α : Type} (o : Option α) (k : α → Prop) : Prop := match o with
  | some z => k z
  | none => False
theorem ownAt.out {ρ : En} {i : Nat} {k : Bool → List PyData → Prop} (h : ownAt ρ i k) : ∃ m ds, ρ[i]? = some (.own m ds) ∧ k m ds := by
  unfold ownAt at h
  split at h
  · exact ⟨_, _, by assumption, h⟩
  · exact h.elim
theorem asInt.out {d : PyData} {k : Int → Prop} (h : asInt d k) : ∃ i, d = .int i ∧ k i := by
  unfold asInt at h
  split at h
  · exact ⟨_, rfl, h⟩
  · exact h.elim
theorem asNat.out {d : PyData} {k : Nat → Prop} (h : asNat d k) : ∃ n : Nat, d = .int n ∧ k n := by
  unfold asNat at h
  split at h
  · rename_i i
    exact ⟨i.toNat, by rw [Int.toNat_of_nonneg h.1], h.2⟩
  · exact h.elim
theorem asList.out {d : PyData} {k : List PyData → Prop} (h : asList d k) : ∃ ds, d = .list ds ∧ k ds := by
  unfold asList at h
  split at h
  · exact ⟨_, rfl, h⟩
  · exact h.elim
theorem asTuple.out {d : PyData} {k : List PyData → Prop} (h : asTuple d k) : ∃ ds, d = .tuple ds ∧ k ds := by
  unfold asTuple at h
  split at h
  · exact ⟨_, rfl, h⟩
  · exact h.elim
theorem someOf.out {α : Type} {o : Option α} {k : α → Prop} (h : someOf o k) : ∃ z, o = some z ∧ k z := by
  unfold someOf at h
  split at h
  · exact ⟨_, rfl, h⟩
  · exact h.elim
def wNeO (i : Nat) (wb : W1) : W1 := fun ρ P => ownAt ρ i fun _ _ => wb ρ fun y ρ2 => ownAt ρ2 i fun m ds => SeqAt.shaped (.list ds) = true ∧ SeqAt.shaped y = true ∧ P (.bool (!PyData.eqv (.list ds) y)) ρ2
def isNone : PyData → Bool
  | .none => true
  | _ => false
def wIsN (wa : W1) : W1 := fun ρ P => wa ρ fun x ρ1 => P (.bool (isNone x)) ρ1
def wTup (wr : WA) : W1 := fun ρ P => wr ρ fun ds ρ1 => ds.length ≤ sizeLine ∧ P (.tuple ds) ρ1
def wLst (wr : WA) : WA := fun ρ P => wr ρ fun ds ρ1 => ds.length ≤ sizeLine ∧ P ds ρ1
/-! ### names, constants -/
def wName (i : Nat) : W1 := fun ρ P => match ρ[i]? with
  | some (.val d) => P d ρ
  | some (.own false ds) => P (.list ds) (ρ.set i (.val (.list ds)))
  | _ => False
def wLook (i : Nat) : W1 := fun ρ P => match ρ[i]? with
  | some (.val d) => P d ρ
  | some (.own _ ds) => P (.list ds) ρ
  | _ => False
def wC (d : PyData) : W1 := fun ρ P => P d ρ
theorem snd_name {K : PySem.W.Frag} (i : Nat) : Snd K (tVar i) (wName i) := fun F ρ P σ S H Q hw R q => by
  unfold wName at hw
  split at hw
  · rename_i d e
    obtain ⟨v, h1, h2⟩ := R.at_ i d e
    exact ⟨v, h1, q d ρ v S H hw R (Same.refl S) h2⟩
  · rename_i ds e
    obtain ⟨a, vs, h1, sm, R', hd⟩ := R.freeze e
    exact ⟨.ref a, h1, q _ _ _ _ _ hw R' sm hd⟩
  · exact hw.elim
theorem snd_look {K : PySem.W.Frag} (i : Nat) : SndR K (tVar i) (wLook i) := fun F ρ P σ S H Q hw R q => by
  unfold wLook at hw
  split at hw
  · rename_i d e
    obtain ⟨v, h1, h2⟩ := R.at_ i d e
    exact ⟨v, h1, q d ρ v S H hw R (Same.refl S) (dp_mono R.sub d v h2)⟩
  · rename_i m ds e
    obtain ⟨a, vs, h1, h2, h3, h4, h5⟩ := R.own i m ds e
    exact ⟨.ref a, h1, q _ _ _ S H hw R (Same.refl S) (.lst (SqQ.of h2) (dpAll_mono R.sub ds vs h4))⟩
  · exact hw.elim
theorem snd_c {K : PySem.W.Frag} {v : V} {d : PyData} (h : ∀ S, Dq K S v d) : Snd K (tC v) (wC d) := fun F ρ P σ S H Q hw R q => q d ρ v S H hw R (Same.refl S) (h S)
section
variable {X : Cx}
theorem ev_name (i : Nat) {x : Str} {pos : Pos} (hN : X.N[i]? = some x := by rfl) (hv : Vis X.env.scope x := by first | exact Or.inl rfl | exact Or.inr (Or.inl rfl) | exact Or.inr (Or.inr rfl)) (hd : (x == ("__debug__" : Str)) = false := by decide)
    (hcd : (x == ("__classdict__" : Str)) = false := by decide) : EV X (.Name x pos) (tVar i) (wName i) := ⟨pe_var hN hv hd hcd, snd_name i⟩
theorem er_name (i : Nat) {x : Str} {pos : Pos} (hN : X.N[i]? = some x := by rfl) (hv : Vis X.env.scope x := by first | exact Or.inl rfl | exact Or.inr (Or.inl rfl) | exact Or.inr (Or.inr rfl)) (hd : (x == ("__debug__" : Str)) = false := by decide)
    (hcd : (x == ("__classdict__" : Str)) = false := by decide) : ER X (.Name x pos) (tVar i) (wLook i) := ⟨pe_var hN hv hd hcd, snd_look i⟩
theorem ev_int {i j pos} : EV X (.Constant (.int i) j pos) (tC (.int i)) (wC (.int i)) := ⟨pe_int, snd_c fun _ => .int i⟩
theorem ev_bl {b j pos} : EV X (.Constant (.bool b) j pos) (tC (.bl b)) (wC (.bool b)) := ⟨pe_bl, snd_c fun _ => .bl b⟩
theorem ev_non {j pos} : EV X (.Constant .none j pos) (tC .non) (wC .none) := ⟨pe_non, snd_c fun _ => .non⟩
theorem ev_str {x j pos} : EV X (.Constant (.str x) j pos) (tC (.str x)) (wC (.str x)) := ⟨pe_str, snd_c fun _ => .str x⟩
/-- a module's plain constant -/
theorem ev_globI {x : Str} {i : Int} {u : Value} {pos : Pos} (hg : Gl X x) (hm : X.mg x = some u) (r : RelV (.int i) u) (hd : (x == ("__debug__" : Str)) = false := by decide) : EV X (.Name x pos) (tC (.int i)) (wC (.int i)) := ⟨pe_glob hg hm r hd, snd_c fun _ => .int i⟩
theorem ev_globS {x : Str} {z : Str} {u : Value} {pos : Pos} (hg : Gl X x) (hm : X.mg x = some u) (r : RelV (.str z) u) (hd : (x == ("__debug__" : Str)) = false := by decide) : EV X (.Name x pos) (tC (.str z)) (wC (.str z)) := ⟨pe_glob hg hm r hd, snd_c fun _ => .str z⟩
end

/-! ### two operands -/
def wTwo (wa wb : W1) (k : PyData → PyData → En → Prop) : En → Prop := fun ρ => wa ρ fun x ρ1 => wb ρ1 fun y ρ2 => k x y ρ2
/-- r on values is served by g on trees, the heap stays -/
def Lift2 (K : PySem.W.Frag) (r : R2) (g : PyData → PyData → (PyData → Prop) → Prop) : Prop :=
  ∀ (S H : Hp) (x y : V) (d e : PyData) (P : PyData → Prop) (Q : VK), Same S H → Dq K S x d → Dq K S y e → g d e P → (∀ z v, P z → Dq K S v z → Q v H) → r x y H Q
/-- .. a new list comes -/
def Lift2N (K : PySem.W.Frag) (r : R2) (g : PyData → PyData → (List PyData → Prop) → Prop) : Prop :=
  ∀ (S H : Hp) (x y : V) (d e : PyData) (P : List PyData → Prop) (Q : VK), Same S H → Dq K S x d → Dq K S y e → g d e P → (∀ p ds vs, H p = none → P ds → DqAll K S vs ds → Q (.ref p) (upd H p (.lst vs))) → r x y H Q
/-- .. a new tuple comes (or one that stood) -/
def Lift2T (K : PySem.W.Frag) (r : R2) (g : PyData → PyData → (PyData → Prop) → Prop) : Prop :=
  ∀ (S H : Hp) (x y : V) (d e : PyData) (P : PyData → Prop) (Q : VK), Same S H → Dq K S x d → Dq K S y e → g d e P → (∀ z v, P z → Dq K S v z → Q v H) →
    (∀ p ds vs, H p = none → P (.tuple ds) → DqAll K S vs ds → Q (.ref p) (upd H p (.tup vs))) → r x y H Q
def wOp (g : PyData → PyData → (PyData → Prop) → Prop) (wa wb : W1) : W1 := fun ρ P => wa ρ fun x ρ1 => wb ρ1 fun y ρ2 => g x y fun z => P z ρ2
def wOpN (g : PyData → PyData → (List PyData → Prop) → Prop) (wa wb : W1) : WA := fun ρ P => wa ρ fun x ρ1 => wb ρ1 fun y ρ2 => g x y fun z => P z ρ2
section
variable {K : PySem.W.Frag} {r : R2} {ta tb : TE} {wa wb : W1}
theorem snd_op {g : PyData → PyData → (PyData → Prop) → Prop} (L : Lift2 K r g) (ha : Snd K ta wa) (hb : Snd K tb wb) : Snd K (tOp r ta tb) (wOp g wa wb) := fun F ρ P σ S H Q hw R q =>
  ha F ρ _ σ S H _ hw R fun x ρ1 vx S1 H1 h1 R1 s1 d1 => hb F ρ1 _ σ S1 H1 _ h1 R1 fun y ρ2 vy S2 H2 h2 R2 s2 d2 =>
    L S2 H2 vx vy x y _ Q R2.sub (dp_mono s2 x vx d1) d2 h2 fun z v hz dz => q z ρ2 v S2 H2 hz R2 (s1.trans s2) dz
theorem snd_opN {g : PyData → PyData → (List PyData → Prop) → Prop} (L : Lift2N K r g) (ha : Snd K ta wa) (hb : Snd K tb wb) : SndN K (tOp r ta tb) (wOpN g wa wb) := fun F ρ P σ S H Q hw R q =>
  ha F ρ _ σ S H _ hw R fun x ρ1 vx S1 H1 h1 R1 s1 d1 => hb F ρ1 _ σ S1 H1 _ h1 R1 fun y ρ2 vy S2 H2 h2 R2 s2 d2 =>
    L S2 H2 vx vy x y _ Q R2.sub (dp_mono s2 x vx d1) d2 h2 fun p ds vs n hp hd => q ds ρ2 p vs S2 _ hp (R2.lay n _) (s1.trans s2) (R2.bare n) hd
theorem snd_opT {g : PyData → PyData → (PyData → Prop) → Prop} (L : Lift2T K r g) (ha : Snd K ta wa) (hb : Snd K tb wb) : Snd K (tOp r ta tb) (wOp g wa wb) := fun F ρ P σ S H Q hw R q =>
  ha F ρ _ σ S H _ hw R fun x ρ1 vx S1 H1 h1 R1 s1 d1 => hb F ρ1 _ σ S1 H1 _ h1 R1 fun y ρ2 vy S2 H2 h2 R2 s2 d2 =>
    L S2 H2 vx vy x y _ Q R2.sub (dp_mono s2 x vx d1) d2 h2 (fun z v hz dz => q z ρ2 v S2 H2 hz R2 (s1.trans s2) dz) fun p ds vs n hp hd =>
      q _ ρ2 _ _ _ hp (R2.new n (.tup vs)) (s1.trans (s2.trans (same_new (same_none R2.sub n)))) (.tup (SqT.of upd_same) (dpAll_mono (same_new (same_none R2.sub n)) ds vs hd))
end
/-- ints in, under C -/
def gI (C : Int → Int → Prop) (f : Int → Int → PyData) : PyData → PyData → (PyData → Prop) → Prop := fun x y P => match x, y with
  | .int i, .int j => C i j ∧ P (f i j)
  | _, _ => False
def gI0 (f : Int → Int → PyData) : PyData → PyData → (PyData → Prop) → Prop := fun x y P => match x, y with
  | .int i, .int j => P (f i j)
  | _, _ => False
theorem lift_I {K : PySem.W.Frag} {C : Int → Int → Prop} {f : Int → Int → PyData} {g : Int → Int → V} (h : ∀ i j S, Dq K S (g i j) (f i j)) : Lift2 K (rI C g) (gI C f) := fun S H x y d e P Q _ dx dy hg q => by
  unfold gI at hg
  split at hg
  · cases dx
    cases dy
    exact ⟨_, _, rfl, rfl, hg.1, q _ _ hg.2 (h _ _ S)⟩
  · exact hg.elim
theorem lift_I0 {K : PySem.W.Frag} {f : Int → Int → PyData} {g : Int → Int → V} (h : ∀ i j S, Dq K S (g i j) (f i j)) : Lift2 K (rI0 g) (gI0 f) := fun S H x y d e P Q _ dx dy hg q => by
  unfold gI0 at hg
  split at hg
  · cases dx
    cases dy
    exact ⟨_, _, rfl, rfl, q _ _ hg (h _ _ S)⟩
  · exact hg.elim
section
variable {X : Cx} {a b c : Expr} {ta tb tc : TE} {wa wb wc : W1} {pos : Pos}
theorem ev_bin {op : Operator} {r : R2} {g : PyData → PyData → (PyData → Prop) → Prop} (ho : OpR X (binaryOp op) r) (L : Lift2 X.K r g) (ha : EV X a ta wa) (hb : EV X b tb wb) : EV X (.BinOp a op b pos) (tOp r ta tb) (wOp g wa wb) := ⟨pe_op ho ha.pe hb.pe, snd_op L ha.sd hb.sd⟩
theorem ev_add (ha : EV X a ta wa) (hb : EV X b tb wb) : EV X (.BinOp a .Add b pos) (tOp (rI0 fun i j => .int (i + j)) ta tb) (wOp (gI0 fun i j => .int (i + j)) wa wb) := ev_bin op_add (lift_I0 fun _ _ _ => .int _) ha hb
theorem ev_sub (ha : EV X a ta wa) (hb : EV X b tb wb) : EV X (.BinOp a .Sub b pos) (tOp (rI0 fun i j => .int (i - j)) ta tb) (wOp (gI0 fun i j => .int (i - j)) wa wb) := ev_bin op_sub (lift_I0 fun _ _ _ => .int _) ha hb
theorem ev_mul (ha : EV X a ta wa) (hb : EV X b tb wb) : EV X (.BinOp a .Mult b pos) (tOp (rI CMul fun i j => .int (i * j)) ta tb) (wOp (gI CMul fun i j => .int (i * j)) wa wb) := ev_bin op_mul (lift_I fun _ _ _ => .int _) ha hb
theorem ev_mod (ha : EV X a ta wa) (hb : EV X b tb wb) : EV X (.BinOp a .Mod b pos) (tOp (rI (fun _ j => j ≠ 0) fun i j => .int (i.fmod j)) ta tb) (wOp (gI (fun _ j => j ≠ 0) fun i j => .int (i.fmod j)) wa wb) := ev_bin op_modN (lift_I fun _ _ _ => .int _) ha hb
theorem ev_fdiv (ha : EV X a ta wa) (hb : EV X b tb wb) : EV X (.BinOp a .FloorDiv b pos) (tOp (rI CDivN fun i j => .int (i.fdiv j)) ta tb) (wOp (gI CDivN fun i j => .int (i.fdiv j)) wa wb) := ev_bin op_fdivN (lift_I fun _ _ _ => .int _) ha hb
theorem ev_pow (ha : EV X a ta wa) (hb : EV X b tb wb) : EV X (.BinOp a .Pow b pos) (tOp (rI CPow fun i j => .int (i ^ j.toNat)) ta tb) (wOp (gI CPow fun i j => .int (i ^ j.toNat)) wa wb) := ev_bin op_pow (lift_I fun _ _ _ => .int _) ha hb
theorem ev_cmpI {op : CmpOp} {r : R2} {g : PyData → PyData → (PyData → Prop) → Prop} (ho : OpR X (compareOp op) r) (L : Lift2 X.K r g) (ha : EV X a ta wa) (hb : EV X b tb wb) (hm : behindInMarks op b = false) : EV X (.Compare a [op] [b] pos) (tOp r ta tb) (wOp g wa wb) := ⟨pe_cmpR ho ha.pe hb.pe hm, snd_op L ha.sd hb.sd⟩
theorem ev_lt (ha : EV X a ta wa) (hb : EV X b tb wb) : EV X (.Compare a [.Lt] [b] pos) (tOp (rI0 fun i j => .bl (decide (i < j))) ta tb) (wOp (gI0 fun i j => .bool (decide (i < j))) wa wb) := ev_cmpI op_lt (lift_I0 fun _ _ _ => .bl _) ha hb (nomark _)
theorem ev_le (ha : EV X a ta wa) (hb : EV X b tb wb) : EV X (.Compare a [.LtE] [b] pos) (tOp (rI0 fun i j => .bl (decide (i ≤ j))) ta tb) (wOp (gI0 fun i j => .bool (decide (i ≤ j))) wa wb) := ev_cmpI op_le (lift_I0 fun _ _ _ => .bl _) ha hb (nomark _)
theorem ev_gt (ha : EV X a ta wa) (hb : EV X b tb wb) : EV X (.Compare a [.Gt] [b] pos) (tOp (rI0 fun i j => .bl (decide (j < i))) ta tb) (wOp (gI0 fun i j => .bool (decide (j < i))) wa wb) := ev_cmpI op_gt (lift_I0 fun _ _ _ => .bl _) ha hb (nomark _)
theorem ev_ge (ha : EV X a ta wa) (hb : EV X b tb wb) : EV X (.Compare a [.GtE] [b] pos) (tOp (rI0 fun i j => .bl (decide (j ≤ i))) ta tb) (wOp (gI0 fun i j => .bool (decide (j ≤ i))) wa wb) := ev_cmpI op_ge (lift_I0 fun _ _ _ => .bl _) ha hb (nomark _)
/-- == of trees -/
def gEq : PyData → PyData → (PyData → Prop) → Prop := fun x y P => SeqAt.shaped x = true ∧ SeqAt.shaped y = true ∧ P (.bool (PyData.eqv x y))
def gNe : PyData → PyData → (PyData → Prop) → Prop := fun x y P => SeqAt.shaped x = true ∧ SeqAt.shaped y = true ∧ P (.bool (!PyData.eqv x y))
theorem lift_eq {K : PySem.W.Frag} : Lift2 K (rEqD K) gEq := fun S H x y d e P Q sm dx dy hg q => ⟨d, e, (dp_mono sm d x dx).p hg.1, (dp_mono sm e y dy).p hg.2.1, hg.1, hg.2.1, q _ _ hg.2.2 (.bl _)⟩
theorem lift_ne {K : PySem.W.Frag} : Lift2 K (rNeD K) gNe := fun S H x y d e P Q sm dx dy hg q => ⟨d, e, (dp_mono sm d x dx).p hg.1, (dp_mono sm e y dy).p hg.2.1, hg.1, hg.2.1, q _ _ hg.2.2 (.bl _)⟩
theorem ev_eq (hu : X.A.units + 64 < cLine) (ha : EV X a ta wa) (hb : EV X b tb wb) : EV X (.Compare a [.Eq] [b] pos) (tOp (rEqD X.K) ta tb) (wOp gEq wa wb) := ev_cmpI (op_eqD hu) lift_eq ha hb (nomark _)
theorem ev_ne (hu : X.A.units + 64 < cLine) (ha : EV X a ta wa) (hb : EV X b tb wb) : EV X (.Compare a [.NotEq] [b] pos) (tOp (rNeD X.K) ta tb) (wOp gNe wa wb) := ev_cmpI (op_neD hu) lift_ne ha hb (nomark _)
/-- a list of one's own on the left, looked at -/
theorem ev_neO (hu : X.A.units + 64 < cLine) (i : Nat) {x : Str} {pos' : Pos} (hb : EV X b tb wb) (hN : X.N[i]? = some x := by rfl) (hv : Vis X.env.scope x := by first | exact Or.inl rfl | exact Or.inr (Or.inl rfl) | exact Or.inr (Or.inr rfl)) (hd : (x == ("__debug__" : Str)) = false := by decide)
    (hcd : (x == ("__classdict__" : Str)) = false := by decide) :
    EV X (.Compare (.Name x pos') [.NotEq] [b] pos) (tOp (rNeD X.K) (tVar i) tb) (wNeO i wb) := by
  refine ⟨pe_cmpR (op_neD hu) (pe_var hN hv hd hcd) hb.pe (nomark _), fun F ρ P σ S H Q hw R q => ?_⟩
  obtain ⟨m, ds, e, hw⟩ := hw.out
  obtain ⟨a, vs, h1, h2, h3, h4, h5⟩ := R.own i m ds e
  refine ⟨.ref a, h1, hb.sd F ρ _ σ S H _ hw R fun y ρ2 vy S2 H2 hp R2 s2 d2 => ?_⟩
  obtain ⟨m', ds', e', k1, k2, hp⟩ := hp.out
  obtain ⟨a', vs', g1, g2, g3, g4, g5⟩ := R2.own i m' ds' e'
  rw [h1] at g1
  cases g1
  exact ⟨.list ds', y, .lst (SqL.of g2) ((dpAll_mono R2.sub ds' vs' g4).p (nd_shaped k1)), (dp_mono R2.sub y vy d2).p k2, k1, k2, q _ _ _ _ _ hp R2 s2 (.bl _)⟩

/-! ### tests -/
def wB (w : W1) : WT := fun ρ P => w ρ fun d ρ' => match d with
  | .bool b => P b ρ'
  | _ => False
theorem snd_B {K : PySem.W.Frag} {t : TE} {w : W1} (h : Snd K t w) : SndT K (tB t) (wB w) := fun F ρ P σ S H Q hw R q => h F ρ _ σ S H _ hw R fun d ρ' v S' H' hp R' sm hd => by
  split at hp
  · cases hd
    exact ⟨_, rfl, q _ _ _ _ hp R' sm⟩
  · exact hp.elim
theorem snd_Test {K : PySem.W.Frag} {t : TE} {w : W1} (h : Snd K t w) : SndT K (tTest t) (wB w) := snd_B h
/-- an expression that is a truth, as a test -/
theorem et_val {e : Expr} {t : TE} {w : W1} (h : EV X e t w) (he : ∀ whole, isTrue e X.env whole = (do let v ← whole; standAt e.pos; holding [v] (truthy v)) := by intro _; rfl) : ET X e (tB t) (wB w) := ⟨pt_val h.pe he, snd_B h.sd⟩
/-- a comparison as a test -/
theorem et_cmp {op : CmpOp} {r : R2} {g : PyData → PyData → (PyData → Prop) → Prop} (ho : OpR X (compareOp op) r) (L : Lift2 X.K r g) (ha : EV X a ta wa) (hb : EV X b tb wb) (hm : behindInMarks op b = false) : ET X (.Compare a [op] [b] pos) (tTest (tOp r ta tb)) (wB (wOp g wa wb)) :=
  ⟨pt_cmpR ho ha.pe hb.pe hm, snd_Test (snd_op L ha.sd hb.sd)⟩
theorem et_lt (ha : EV X a ta wa) (hb : EV X b tb wb) : ET X (.Compare a [.Lt] [b] pos) (tTest (tOp (rI0 fun i j => .bl (decide (i < j))) ta tb)) (wB (wOp (gI0 fun i j => .bool (decide (i < j))) wa wb)) := et_cmp op_lt (lift_I0 fun _ _ _ => .bl _) ha hb (nomark _)
theorem et_le (ha : EV X a ta wa) (hb : EV X b tb wb) : ET X (.Compare a [.LtE] [b] pos) (tTest (tOp (rI0 fun i j => .bl (decide (i ≤ j))) ta tb)) (wB (wOp (gI0 fun i j => .bool (decide (i ≤ j))) wa wb)) := et_cmp op_le (lift_I0 fun _ _ _ => .bl _) ha hb (nomark _)
theorem et_gt (ha : EV X a ta wa) (hb : EV X b tb wb) : ET X (.Compare a [.Gt] [b] pos) (tTest (tOp (rI0 fun i j => .bl (decide (j < i))) ta tb)) (wB (wOp (gI0 fun i j => .bool (decide (j < i))) wa wb)) := et_cmp op_gt (lift_I0 fun _ _ _ => .bl _) ha hb (nomark _)
theorem et_ge (ha : EV X a ta wa) (hb : EV X b tb wb) : ET X (.Compare a [.GtE] [b] pos) (tTest (tOp (rI0 fun i j => .bl (decide (j ≤ i))) ta tb)) (wB (wOp (gI0 fun i j => .bool (decide (j ≤ i))) wa wb)) := et_cmp op_ge (lift_I0 fun _ _ _ => .bl _) ha hb (nomark _)
theorem et_eq (hu : X.A.units + 64 < cLine) (ha : EV X a ta wa) (hb : EV X b tb wb) : ET X (.Compare a [.Eq] [b] pos) (tTest (tOp (rEqD X.K) ta tb)) (wB (wOp gEq wa wb)) := et_cmp (op_eqD hu) lift_eq ha hb (nomark _)
theorem et_ne (hu : X.A.units + 64 < cLine) (ha : EV X a ta wa) (hb : EV X b tb wb) : ET X (.Compare a [.NotEq] [b] pos) (tTest (tOp (rNeD X.K) ta tb)) (wB (wOp gNe wa wb)) := et_cmp (op_neD hu) lift_ne ha hb (nomark _)
theorem et_neO (hu : X.A.units + 64 < cLine) (i : Nat) {x : Str} {pos' : Pos} (hb : EV X b tb wb) (hN : X.N[i]? = some x := by rfl) (hv : Vis X.env.scope x := by first | exact Or.inl rfl | exact Or.inr (Or.inl rfl) | exact Or.inr (Or.inr rfl)) (hd : (x == ("__debug__" : Str)) = false := by decide)
    (hcd : (x == ("__classdict__" : Str)) = false := by decide) :
    ET X (.Compare (.Name x pos') [.NotEq] [b] pos) (tTest (tOp (rNeD X.K) (tVar i) tb)) (wB (wNeO i wb)) :=
  ⟨pt_cmpR (op_neD hu) (pe_var hN hv hd hcd) hb.pe (nomark _), snd_Test (ev_neO (pos := pos) (pos' := pos') hu i hb hN hv hd hcd).sd⟩
variable {tA tB' : TT} {wA wB' : WT} {rest : List Expr}
def wAnd (w u : WT) : WT := fun ρ P => w ρ fun c ρ1 => if c = true then u ρ1 P else P false ρ1
def wOr (w u : WT) : WT := fun ρ P => w ρ fun c ρ1 => if c = true then P true ρ1 else u ρ1 P
def wNot (w : WT) : WT := fun ρ P => w ρ fun c ρ1 => P (!c) ρ1
structure EW (X : Cx) (e : Expr) (t : TT) (w : WT) : Prop where
  pw : PW X e t
  sd : SndT X.K t w
theorem EW.et {e : Expr} {t : TT} {w : WT} (h : EW X e t w) : ET X e t w := ⟨h.pw.pt, h.sd⟩
theorem ew_and1 (ha : ET X a tA wA) : EW X (.BoolOp .And [a] pos) tA wA := ⟨pw_and1 ha.pt, ha.sd⟩
theorem ew_or1 (ha : ET X a tA wA) : EW X (.BoolOp .Or [a] pos) tA wA := ⟨pw_or1 ha.pt, ha.sd⟩
theorem ew_and (ha : ET X a tA wA) (hb : EW X (.BoolOp .And (b :: rest) pos) tB' wB') : EW X (.BoolOp .And (a :: b :: rest) pos) (tAnd tA tB') (wAnd wA wB') := ⟨pw_and ha.pt hb.pw, fun F ρ P σ S H Q hw R q =>
  ha.sd F ρ _ σ S H _ hw R fun c ρ1 S1 H1 h1 R1 s1 => by
    cases c with
    | true =>
      rw [if_pos rfl] at h1 ⊢
      exact hb.sd F ρ1 _ σ S1 H1 Q h1 R1 fun b ρ2 S2 H2 h2 R2 s2 => q b ρ2 S2 H2 h2 R2 (s1.trans s2)
    | false =>
      rw [if_neg Bool.false_ne_true] at h1 ⊢
      exact q false ρ1 S1 H1 h1 R1 s1⟩
theorem ew_or (ha : ET X a tA wA) (hb : EW X (.BoolOp .Or (b :: rest) pos) tB' wB') : EW X (.BoolOp .Or (a :: b :: rest) pos) (tOr tA tB') (wOr wA wB') := ⟨pw_or ha.pt hb.pw, fun F ρ P σ S H Q hw R q =>
  ha.sd F ρ _ σ S H _ hw R fun c ρ1 S1 H1 h1 R1 s1 => by
    cases c with
    | true =>
      rw [if_pos rfl] at h1 ⊢
      exact q true ρ1 S1 H1 h1 R1 s1
    | false =>
      rw [if_neg Bool.false_ne_true] at h1 ⊢
      exact hb.sd F ρ1 _ σ S1 H1 Q h1 R1 fun b ρ2 S2 H2 h2 R2 s2 => q b ρ2 S2 H2 h2 R2 (s1.trans s2)⟩
theorem et_not (ha : ET X a tA wA) : ET X (.UnaryOp .Not a pos) (tNot tA) (wNot wA) := ⟨pt_not ha.pt, fun F ρ P σ S H Q hw R q => ha.sd F ρ _ σ S H _ hw R fun c ρ1 S1 H1 h1 R1 s1 => q _ ρ1 S1 H1 h1 R1 s1⟩
/-! ### .. as values -/
def wAndV (wa wb : W1) : W1 := fun ρ P => wa ρ fun x ρ1 => match x with
  | .bool true => wb ρ1 P
  | .bool false => P (.bool false) ρ1
  | _ => False
def wOrV (wa wb : W1) : W1 := fun ρ P => wa ρ fun x ρ1 => match x with
  | .bool true => P (.bool true) ρ1
  | .bool false => wb ρ1 P
  | _ => False
def wNotV (wa : W1) : W1 := fun ρ P => wa ρ fun x ρ1 => match x with
  | .bool c => P (.bool (!c)) ρ1
  | _ => False
theorem ev_one {op} {t : TE} {w : W1} (h : EV X a t w) : EV X (.BoolOp op [a] pos) t w := ⟨pe_one h.pe, h.sd⟩
theorem ev_and (ha : EV X a ta wa) (hb : EV X (.BoolOp .And (b :: rest) pos) tb wb) : EV X (.BoolOp .And (a :: b :: rest) pos) (tAndV ta tb) (wAndV wa wb) := ⟨pe_and ha.pe hb.pe, fun F ρ P σ S H Q hw R q =>
  ha.sd F ρ _ σ S H _ hw R fun x ρ1 v S1 H1 h1 R1 s1 d1 => by
    split at h1
    · cases d1
      exact ⟨true, rfl, hb.sd F ρ1 _ σ S1 H1 Q h1 R1 fun y ρ2 v2 S2 H2 h2 R2 s2 d2 => q y ρ2 v2 S2 H2 h2 R2 (s1.trans s2) d2⟩
    · cases d1
      exact ⟨false, rfl, q _ ρ1 _ S1 H1 h1 R1 s1 (.bl false)⟩
    · exact h1.elim⟩
theorem ev_or (ha : EV X a ta wa) (hb : EV X (.BoolOp .Or (b :: rest) pos) tb wb) : EV X (.BoolOp .Or (a :: b :: rest) pos) (tOrV ta tb) (wOrV wa wb) := ⟨pe_or ha.pe hb.pe, fun F ρ P σ S H Q hw R q =>
  ha.sd F ρ _ σ S H _ hw R fun x ρ1 v S1 H1 h1 R1 s1 d1 => by
    split at h1
    · cases d1
      exact ⟨true, rfl, q _ ρ1 _ S1 H1 h1 R1 s1 (.bl true)⟩
    · cases d1
      exact ⟨false, rfl, hb.sd F ρ1 _ σ S1 H1 Q h1 R1 fun y ρ2 v2 S2 H2 h2 R2 s2 d2 => q y ρ2 v2 S2 H2 h2 R2 (s1.trans s2) d2⟩
    · exact h1.elim⟩
theorem ev_not (ha : EV X a ta wa) : EV X (.UnaryOp .Not a pos) (tNotV ta) (wNotV wa) := ⟨pe_not ha.pe, fun F ρ P σ S H Q hw R q =>
  ha.sd F ρ _ σ S H _ hw R fun x ρ1 v S1 H1 h1 R1 s1 d1 => by
    split at h1
    · cases d1
      exact ⟨_, rfl, q _ ρ1 _ S1 H1 h1 R1 s1 (.bl _)⟩
    · exact h1.elim⟩
def wIf (w : WT) (wa wb : W1) : W1 := fun ρ P => w ρ fun c ρ1 => if c = true then wa ρ1 P else wb ρ1 P
theorem ev_if (hc : ET X c tA wA) (ha : EV X a ta wa) (hb : EV X b tb wb) : EV X (.IfExp c a b pos) (tIf tA ta tb) (wIf wA wa wb) := ⟨pe_ifExp hc.pt ha.pe hb.pe, fun F ρ P σ S H Q hw R q =>
  hc.sd F ρ _ σ S H _ hw R fun c ρ1 S1 H1 h1 R1 s1 => by
    cases c with
    | true =>
      rw [if_pos rfl] at h1 ⊢
      exact ha.sd F ρ1 _ σ S1 H1 Q h1 R1 fun y ρ2 v2 S2 H2 h2 R2 s2 d2 => q y ρ2 v2 S2 H2 h2 R2 (s1.trans s2) d2
    | false =>
      rw [if_neg Bool.false_ne_true] at h1 ⊢
      exact hb.sd F ρ1 _ σ S1 H1 Q h1 R1 fun y ρ2 v2 S2 H2 h2 R2 s2 d2 => q y ρ2 v2 S2 H2 h2 R2 (s1.trans s2) d2⟩
/-! ### is None -/
theorem ev_isN {j pos'} (ha : EV X a ta wa) : EV X (.Compare a [.Is] [.Constant .none j pos'] pos) (tIsN ta) (wIsN wa) := ⟨pe_cmp (pc_isN ha.pe) (by rfl), fun F ρ P σ S H Q hw R q =>
  ha.sd F ρ _ σ S H _ hw R fun x ρ1 v S1 H1 h1 R1 s1 d1 => by
    have e : decide (v = V.non) = isNone x := by cases d1 <;> rfl
    rw [e]
    exact q _ ρ1 _ S1 H1 h1 R1 s1 (.bl _)⟩

/-! ### displays -/
def wNil : WA := fun ρ P => P [] ρ
def wCons (wa : W1) (wr : WA) : WA := fun ρ P => wa ρ fun x ρ1 => wr ρ1 fun xs ρ2 => P (x :: xs) ρ2
variable {es : List Expr} {tr : TA} {wr : WA}
theorem ea_nil : EA X [] tNil wNil := ⟨pa_nil, fun F ρ P σ S H Q hw R q => q [] ρ [] S H hw R (Same.refl S) .nil⟩
theorem ea_cons (ha : EV X a ta wa) (hr : EA X es tr wr) (hs : starEach (a :: es) X.env = (false, eval a X.env) :: starEach es X.env := by rfl) : EA X (a :: es) (tCons ta tr) (wCons wa wr) := ⟨pa_cons ha.pe hr.pa hs, fun F ρ P σ S H Q hw R q =>
  ha.sd F ρ _ σ S H _ hw R fun x ρ1 v S1 H1 h1 R1 s1 d1 => hr.sd F ρ1 _ σ S1 H1 _ h1 R1 fun xs ρ2 vs S2 H2 h2 R2 s2 d2 => q _ ρ2 _ S2 H2 h2 R2 (s1.trans s2) (.cons (dp_mono s2 x v d1) d2)⟩
theorem ev_tup {x1} (h : EA X es tr wr) : EV X (.Tuple es x1 pos) (tTup tr) (wTup wr) := ⟨pe_tup h.pa, fun F ρ P σ S H Q hw R q =>
  h.sd F ρ _ σ S H _ hw R fun ds ρ1 vs S1 H1 h1 R1 s1 d1 => ⟨by rw [d1.len]; exact h1.1, fun p n =>
    q _ ρ1 _ _ _ h1.2 (R1.new n (.tup vs)) (s1.trans (same_new (same_none R1.sub n))) (.tup (SqT.of upd_same) (dpAll_mono (same_new (same_none R1.sub n)) ds vs d1))⟩⟩
theorem en_lst (h : EA X es tr wr) : EN X (.List es pos) (tLst tr) (wLst wr) := ⟨pe_lst h.pa, fun F ρ P σ S H Q hw R q =>
  h.sd F ρ _ σ S H _ hw R fun ds ρ1 vs S1 H1 h1 R1 s1 d1 => ⟨by rw [d1.len]; exact h1.1, fun p n => q ds ρ1 p vs S1 _ h1.2 (R1.lay n _) s1 (R1.bare n) d1⟩⟩
end
end Tr
set_option Elab.async false
set_option linter.all false
set_option maxRecDepth 100000
set_option maxHeartbeats 2000000
/-! Tr3: statements, targets, loops, comprehensions, defs -/
namespace Tr
open PySem PySem.Spec PyProof.Rows L2
variable [Tabbed]

/-- what is wanted behind a statement, over trees -/
structure Nd where
  nx : En → Prop
  rt : PyData → En → Prop
  bk : En → Prop := fun _ => False
  ct : En → Prop := fun _ => False
  rn : List PyData → En → Prop := fun _ _ => False
structure Tie (K : PySem.W.Frag) (F : Fm) (S : Hp) (N : Nd) (D : Ends) : Prop where
  nx : ∀ ρ' σ' S' H', N.nx ρ' → Rep K F S' H' σ' ρ' → Same S S' → D.nx σ' H'
  rt : ∀ d ρ' v σ' S' H', N.rt d ρ' → Rep K F S' H' σ' ρ' → Same S S' → Dq K S' v d → D.rt v H'
  bk : ∀ ρ' σ' S' H', N.bk ρ' → Rep K F S' H' σ' ρ' → Same S S' → D.bk σ' H'
  ct : ∀ ρ' σ' S' H', N.ct ρ' → Rep K F S' H' σ' ρ' → Same S S' → D.ct σ' H'
  rn : ∀ ds ρ' p vs σ' S' H', N.rn ds ρ' → Rep K F S' H' σ' ρ' → Same S S' → Bare F S' H' σ' ρ' p vs → DqAll K S' vs ds → D.rt (.ref p) H'
theorem Tie.mono {K : PySem.W.Frag} {F : Fm} {S S' : Hp} {N : Nd} {D : Ends} (T : Tie K F S N D) (e : Same S S') : Tie K F S' N D :=
  ⟨fun a b c d h r s => T.nx a b c d h r (e.trans s), fun a b c d e' f h r s => T.rt a b c d e' f h r (e.trans s), fun a b c d h r s => T.bk a b c d h r (e.trans s), fun a b c d h r s => T.ct a b c d h r (e.trans s), fun a b c d f g h i r s j k => T.rn a b c d f g h i r (e.trans s) j k⟩
abbrev WS := En → Nd → Prop
def SndS (K : PySem.W.Frag) (t : TS) (w : WS) : Prop :=
  ∀ (F : Fm) (ρ : En) (N : Nd) (σ : L2.St) (S H : Hp) (D : Ends), w ρ N → Rep K F S H σ ρ → Tie K F S N D → t D σ H
structure SV (X : Cx) (st : Stmt) (t : TS) (w : WS) : Prop where
  ps : PS X st t
  sd : SndS X.K t w
structure SVs (X : Cx) (st : List Stmt) (t : TS) (w : WS) : Prop where
  ps : PSs X st t
  sd : SndS X.K t w
abbrev WG := PyData → En → (En → Prop) → Prop
abbrev WGs := List PyData → En → (En → Prop) → Prop
def Agr (ts : List Nat) (σ σ' : L2.St) : Prop := σ'.length = σ.length ∧ ∀ j, j ∉ ts → σ'[j]? = σ[j]?
def SndG (K : PySem.W.Frag) (g : TG) (ts : List Nat) (w : WG) : Prop :=
  ∀ (F : Fm) (ρ : En) (P : En → Prop) (σ : L2.St) (S H : Hp) (v : V) (d : PyData) (Q : L2.St → Hp → Prop), w d ρ P → Rep K F S H σ ρ → Dq K S v d → (∀ ρ' σ', P ρ' → Rep K F S H σ' ρ' → Agr ts σ σ' → Q σ' H) → g v σ H Q
def SndGs (K : PySem.W.Frag) (g : TGs) (ts : List Nat) (w : WGs) : Prop :=
  ∀ (F : Fm) (ρ : En) (P : En → Prop) (σ : L2.St) (S H : Hp) (vs : List V) (ds : List PyData) (Q : L2.St → Hp → Prop), w ds ρ P → Rep K F S H σ ρ → DqAll K S vs ds → (∀ ρ' σ', P ρ' → Rep K F S H σ' ρ' → Agr ts σ σ' → Q σ' H) → g vs σ H Q
structure GV (X : Cx) (tg : Expr) (g : TG) (ts : List Nat) (w : WG) : Prop where
  pg : PG X tg g
  sd : SndG X.K g ts w
structure GVs (X : Cx) (tg : List Expr) (g : TGs) (ts : List Nat) (w : WGs) : Prop where
  pg : PGs X tg g
  sd : SndGs X.K g ts w

/-- what comes behind -/
def Later (w : WS) (ρ : En) (N : Nd) : Prop := w ρ N
theorem Later.now {w : WS} {ρ : En} {N : Nd} (h : w ρ N) : Later w ρ N := h
def wRet (we : W1) : WS := fun ρ N => we ρ N.rt
def wRetN (wn : WA) : WS := fun ρ N => wn ρ N.rn
def wExpr (we : W1) : WS := fun ρ N => we ρ fun _ ρ' => N.nx ρ'
def wAsg (we : W1) (wg : WG) : WS := fun ρ N => we ρ fun d ρ' => wg d ρ' N.nx
def wSet (i : Nat) (we : W1) : WS := fun ρ N => we ρ fun d ρ' => N.nx (ρ'.set i (.val d))
def wSetN (i : Nat) (wn : WA) : WS := fun ρ N => wn ρ fun ds ρ' => N.nx (ρ'.set i (.own false ds))
def wPar (i j : Nat) (wa wb : W1) : WS := fun ρ N => wa ρ fun d ρ1 => wb ρ1 fun e ρ2 => N.nx ((ρ2.set i (.val d)).set j (.val e))
def wParV0 (i j : Nat) (wa : W1) : WS := fun ρ N => wa ρ fun d ρ1 => N.nx ((ρ1.set i (.val d)).set j (.own false []))
def wParN0 (i j : Nat) (wn : WA) : WS := fun ρ N => wn ρ fun ds ρ1 => N.nx ((ρ1.set i (.own false ds)).set j (.own false []))
def wAugI (i : Nat) (we : W1) : WS := fun ρ N => wLook i ρ fun x _ => asInt x fun n => we ρ fun d ρ' => asInt d fun m => N.nx (ρ'.set i (.val (.int (n + m))))
def wgNil : WGs := fun ds ρ P => ds = [] ∧ P ρ
def wgCons (wg : WG) (wgs : WGs) : WGs := fun ds ρ P => match ds with | [] => False | d :: r => wg d ρ fun ρ' => wgs r ρ' P
section
variable {X : Cx} {st : Stmt} {rest : List Stmt} {t u : TS} {w w' : WS} {pos : Pos} {e : Expr} {te : TE} {we : W1}
/-! ### blocks -/
def wSeq (w w' : WS) : WS := fun ρ N => w ρ { N with nx := fun ρ' => Later w' ρ' N }
def wNext : WS := fun ρ N => N.nx ρ
theorem svs_nil : SVs X [] tNext wNext := ⟨pss_nil, fun F ρ N σ S H D hw R T => T.nx ρ σ S H hw R (Same.refl S)⟩
theorem svs_cons (h1 : SV X st t w) (h2 : SVs X rest u w') : SVs X (st :: rest) (tSeq t u) (wSeq w w') := ⟨pss_cons h1.ps h2.ps, fun F ρ N σ S H D hw R T =>
  h1.sd F ρ _ σ S H _ hw R ⟨fun ρ' σ' S' H' h r s => h2.sd F ρ' N σ' S' H' D h r (T.mono s), T.rt, T.bk, T.ct, T.rn⟩⟩
theorem svs_one (h1 : SV X st t w) : SVs X [st] t w := ⟨pss_one h1.ps, h1.sd⟩
theorem sv_pass : SV X (.Pass pos) tNext wNext := ⟨ps_pass, fun F ρ N σ S H D hw R T => T.nx ρ σ S H hw R (Same.refl S)⟩
theorem sv_ret (h : EV X e te we) : SV X (.Return (some e) pos) (tRet te) (wRet we) := ⟨ps_ret h.pe, fun F ρ N σ S H D hw R T =>
  h.sd F ρ _ σ S H _ hw R fun d ρ' v S' H' hp R' sm hd => T.rt d ρ' v σ S' H' hp R' sm hd⟩
/-- return of a new list -/
theorem sv_retN {wn : WA} (h : EN X e te wn) : SV X (.Return (some e) pos) (tRet te) (wRetN wn) := ⟨ps_ret h.pe, fun F ρ N σ S H D hw R T =>
  h.sd F ρ _ σ S H _ hw R fun ds ρ' p vs S' H' hp R' sm B hd => T.rn ds ρ' p vs σ S' H' hp R' sm B hd⟩
theorem sv_expr (h : EV X e te we) (hs : swapsWith e none pos.line X.env = pure false := by rfl) : SV X (.Expr e pos) (tDrop te) (wExpr we) := ⟨ps_expr h.pe hs, fun F ρ N σ S H D hw R T =>
  h.sd F ρ _ σ S H _ hw R fun d ρ' v S' H' hp R' sm hd => T.nx ρ' σ S' H' hp R' sm⟩
def wIfS (c : WT) (w w' : WS) : WS := fun ρ N => c ρ fun b ρ1 => if b = true then Later w ρ1 N else Later w' ρ1 N
theorem sv_if {c : Expr} {a b : List Stmt} {tc : TT} {wc : WT} (hc : ET X c tc wc) (ha : SVs X a t w) (hb : SVs X b u w') : SV X (.If c a b pos) (tIfS tc t u) (wIfS wc w w') := ⟨ps_if hc.pt ha.ps hb.ps, fun F ρ N σ S H D hw R T =>
  hc.sd F ρ _ σ S H _ hw R fun b ρ1 S1 H1 h1 R1 s1 => by
    cases b with
    | true =>
      rw [if_pos rfl] at h1 ⊢
      exact ha.sd F ρ1 N σ S1 H1 D h1 R1 (T.mono s1)
    | false =>
      rw [if_neg Bool.false_ne_true] at h1 ⊢
      exact hb.sd F ρ1 N σ S1 H1 D h1 R1 (T.mono s1)⟩

/-! ### targets -/
def gvName (i : Nat) : WG := fun d ρ P => P (ρ.set i (.val d))
theorem gv_name (i : Nat) {x : Str} (hN : X.N.Nodup) (hi : X.N[i]? = some x := by rfl) (hx : Loc X.env.scope x := by first | exact Or.inl rfl | exact Or.inr rfl) (hf : X.fn x = true ∨ X.env.scope.names.lookup x = some .local := by first | exact .inl rfl | exact .inr rfl | assumption) : GV X (.Name x pos) (gName i) [i] (gvName i) :=
  ⟨pg_name hN hi hx hf, fun F ρ P σ S H v d Q hw R hd q => q _ _ hw (R.set i hd) ⟨by rw [List.length_set], fun j hj => by rw [List.getElem?_set_ne (fun z => hj (by simp [z]))]⟩⟩
theorem gvs_nil : GVs X [] gNil [] wgNil := ⟨pgs_nil, fun F ρ P σ S H vs ds Q hw R hd q => by
  obtain ⟨rfl, hw⟩ := hw
  cases hd
  exact ⟨rfl, q _ _ hw R ⟨rfl, fun _ _ => rfl⟩⟩⟩
theorem gvs_cons {es : List Expr} {g : TG} {gs : TGs} {wg : WG} {wgs : WGs} {ts us : List Nat} (h1 : GV X e g ts wg) (h2 : GVs X es gs us wgs) (hs : (assignEach (e :: es) X.env).map (·.2) = assign e X.env :: (assignEach es X.env).map (·.2) := by rfl) :
    GVs X (e :: es) (gCons g gs) (ts ++ us) (wgCons wg wgs) := ⟨pgs_cons h1.pg h2.pg hs, fun F ρ P σ S H vs ds Q hw R hd q => by
  cases ds with
  | nil => exact hw.elim
  | cons d r =>
    cases hd with
    | cons d1 d2 => exact ⟨_, _, rfl, h1.sd F ρ _ σ S H _ d _ hw R d1 fun ρ' σ' h R' a1 => h2.sd F ρ' P σ' S H _ r Q h R' d2 fun ρ2 σ2 h2 R2 a2 => q ρ2 σ2 h2 R2 ⟨a2.1.trans a1.1, fun j hj => (a2.2 j fun z => hj (List.mem_append_right _ z)).trans (a1.2 j fun z => hj (List.mem_append_left _ z))⟩⟩⟩
/-- (a, b, ..) = a list or tuple of that length -/
def gSeq (K : PySem.W.Frag) (n : Nat) (t : TGs) : TG := fun v σ H Q => gTup K n t v σ H Q ∨ gUnl K n t v σ H Q
theorem pg_seq {es : List Expr} {k : Nat} {t : TGs} {n : Nat} (hc : X.calm = true) (h : PGs X es t) (hn : (assignEach es X.env).length = n := by rfl) (hst : (assignEach es X.env).findIdx? (·.1) = none := by rfl) : PG X (.Tuple es k pos) (gSeq X.K n t) := by
  refine ⟨fun pins s σ H v u Q I r hw => ?_⟩
  rcases hw with hw | hw
  · exact (pg_tup hc h hn hst).run pins s σ H v u Q I r hw
  · exact (pg_unl hc h hn hst).run pins s σ H v u Q I r hw
def wgSeq (n : Nat) (wgs : WGs) : WG := fun d ρ P => match d with
  | .list ds => ds.length = n ∧ wgs ds ρ P
  | .tuple ds => ds.length = n ∧ wgs ds ρ P
  | _ => False
theorem gv_seq {es : List Expr} {k : Nat} {gs : TGs} {wgs : WGs} {n : Nat} {ts : List Nat} (hc : X.calm = true) (h : GVs X es gs ts wgs) (hn : (assignEach es X.env).length = n := by rfl) (hst : (assignEach es X.env).findIdx? (·.1) = none := by rfl) :
    GV X (.Tuple es k pos) (gSeq X.K n gs) ts (wgSeq n wgs) := ⟨pg_seq hc h.pg hn hst, fun F ρ P σ S H v d Q hw R hd q => by
  unfold wgSeq at hw
  split at hw
  · cases hd with
    | lst h1 h2 => exact .inr ⟨_, _, rfl, same_sqL R.sub h1, by rw [h2.len]; exact hw.1, h.sd F ρ P σ S H _ _ Q hw.2 R h2 q⟩
  · cases hd with
    | tup h1 h2 => exact .inl ⟨_, _, rfl, same_sqT R.sub h1, by rw [h2.len]; exact hw.1, h.sd F ρ P σ S H _ _ Q hw.2 R h2 q⟩
  · exact hw.elim⟩
/-! ### assignments -/
theorem sv_asg {tg : Expr} {g : TG} {wg : WG} {ts : List Nat} (he : EV X e te we) (hg : GV X tg g ts wg) (hs : swapsWithSole [tg] e pos.line X.env = pure false := by rfl) (hw : swappedStores [tg] e X.env = pure none := by rfl)
    (h1 : (assignEach [tg] X.env).map (·.2) = [assign tg X.env] := by rfl) : SV X (.Assign [tg] e pos) (tAsg te g) (wAsg we wg) := ⟨ps_asg he.pe hg.pg hs hw h1, fun F ρ N σ S H D hw R T =>
  he.sd F ρ _ σ S H _ hw R fun d ρ' v S' H' hp R' sm hd => hg.sd F ρ' _ σ S' H' v d _ hp R' hd fun ρ2 σ2 h2 R2 _ => T.nx ρ2 σ2 S' H' h2 R2 sm⟩
theorem sv_set (i : Nat) {x : Str} {pos' : Pos} (hN : X.N.Nodup) (he : EV X e te we) (hi : X.N[i]? = some x := by rfl) (hx : Loc X.env.scope x := by first | exact Or.inl rfl | exact Or.inr rfl) (hs : swapsWith e (some (.Name x pos')) pos.line X.env = pure false := by rfl) (hf : X.fn x = true ∨ X.env.scope.names.lookup x = some .local := by first | exact .inl rfl | exact .inr rfl | assumption) :
    SV X (.Assign [.Name x pos'] e pos) (tAsg te (gName i)) (wSet i we) := ⟨ps_set hN hi hx he.pe hs hf, fun F ρ N σ S H D hw R T =>
  he.sd F ρ _ σ S H _ hw R fun d ρ' v S' H' hp R' sm hd => T.nx _ _ S' H' hp (R'.set i hd) sm⟩
/-- the slot gets a list of its own -/
theorem sv_setN (i : Nat) {x : Str} {pos' : Pos} {wn : WA} (hN : X.N.Nodup) (he : EN X e te wn) (hi : X.N[i]? = some x := by rfl) (hx : Loc X.env.scope x := by first | exact Or.inl rfl | exact Or.inr rfl) (hs : swapsWith e (some (.Name x pos')) pos.line X.env = pure false := by rfl) (hf : X.fn x = true ∨ X.env.scope.names.lookup x = some .local := by first | exact .inl rfl | exact .inr rfl | assumption) :
    SV X (.Assign [.Name x pos'] e pos) (tAsg te (gName i)) (wSetN i wn) := ⟨ps_set hN hi hx he.pe hs hf, fun F ρ N σ S H D hw R T =>
  he.sd F ρ _ σ S H _ hw R fun ds ρ' p vs S' H' hp R' sm B hd => T.nx _ _ S' H' hp (R'.setOwn i B.at_ B.s B.h0 B.ap hd) sm⟩
section
variable {i j : Nat} {x y : Str} {a b : Expr} {ta tb : TE} {wa wb : W1} {wn : WA} {px py pt pl : Pos} {kt k2 : Nat} {pt2 : Pos}
/-- a, b = e1, e2 -/
theorem sv_par (i j : Nat) (hc : X.calm = true) (hN : X.N.Nodup) (ha : EV X a ta wa) (hb : EV X b tb wb) (hi : X.N[i]? = some x := by rfl) (hj : X.N[j]? = some y := by rfl) (hij : i ≠ j := by decide)
    (hx : X.env.scope.names.lookup x = some .local := by rfl) (hy : X.env.scope.names.lookup y = some .local := by rfl)
    (hw : swappedStores [.Tuple [.Name x px, .Name y py] kt pt] (.Tuple [a, b] k2 pt2) X.env = pure (some [x, y]) := by rfl)
    (hs : swapsWithSole [.Tuple [.Name x px, .Name y py] kt pt] (.Tuple [a, b] k2 pt2) pos.line X.env = pure false := by rfl)
    (h1 : starEach [a, b] X.env = (false, eval a X.env) :: starEach [b] X.env := by rfl) (h2 : starEach [b] X.env = (false, eval b X.env) :: starEach [] X.env := by rfl) :
    SV X (.Assign [.Tuple [.Name x px, .Name y py] kt pt] (.Tuple [a, b] k2 pt2) pos) (tPar i j (tCons ta (tCons tb tNil))) (wPar i j wa wb) :=
  ⟨ps_par hc hN hi hj hij hx hy (pa_cons ha.pe (pa_cons hb.pe pa_nil h2) h1) hw hs, fun F ρ N σ S H D hw R T =>
  ha.sd F ρ _ σ S H _ hw R fun d ρ1 v S1 H1 q1 R1 s1 d1 => hb.sd F ρ1 _ σ S1 H1 _ q1 R1 fun e ρ2 u S2 H2 q2 R2 s2 d2 =>
    ⟨v, u, rfl, T.nx _ _ S2 H2 q2 ((R2.set i (dp_mono s2 d v d1)).set j d2) (s1.trans s2)⟩⟩
/-- a, b = e1, [] -/
theorem sv_parV0 (i j : Nat) (hc : X.calm = true) (hN : X.N.Nodup) (ha : EV X a ta wa) (hi : X.N[i]? = some x := by rfl) (hj : X.N[j]? = some y := by rfl) (hij : i ≠ j := by decide)
    (hx : X.env.scope.names.lookup x = some .local := by rfl) (hy : X.env.scope.names.lookup y = some .local := by rfl)
    (hw : swappedStores [.Tuple [.Name x px, .Name y py] kt pt] (.Tuple [a, .List [] pl] k2 pt2) X.env = pure (some [x, y]) := by rfl)
    (hs : swapsWithSole [.Tuple [.Name x px, .Name y py] kt pt] (.Tuple [a, .List [] pl] k2 pt2) pos.line X.env = pure false := by rfl)
    (h1 : starEach [a, .List [] pl] X.env = (false, eval a X.env) :: starEach [.List [] pl] X.env := by rfl) (h2 : starEach [.List [] pl] X.env = (false, eval (.List [] pl) X.env) :: starEach [] X.env := by rfl) :
    SV X (.Assign [.Tuple [.Name x px, .Name y py] kt pt] (.Tuple [a, .List [] pl] k2 pt2) pos) (tPar i j (tCons ta (tCons (tLst tNil) tNil))) (wParV0 i j wa) :=
  ⟨ps_par hc hN hi hj hij hx hy (pa_cons ha.pe (pa_cons (pe_lst pa_nil) pa_nil h2) h1) hw hs, fun F ρ N σ S H D hw R T =>
  ha.sd F ρ _ σ S H _ hw R fun d ρ1 v S1 H1 q1 R1 s1 d1 => ⟨Nat.zero_le _, fun p n => ⟨v, .ref p, rfl, by
    have R2 := R1.lay n (.lst [])
    have B : Bare F S1 (upd H1 p (.lst [])) σ ρ1 p [] := R1.bare n
    have R3 := R2.set i d1
    refine T.nx _ _ S1 _ q1 (R3.setOwn (p := p) (vs := []) j B.at_ B.s B.h0 (fun k m ds e z => ?_) .nil) s1
    rcases get_set e with ⟨rfl, e, _⟩ | ⟨hk, e⟩
    · cases e
    · rw [List.getElem?_set_ne (Ne.symm hk)] at z
      exact B.ap k m ds e z⟩⟩⟩
/-- a, b = a new list, [] -/
theorem sv_parN0 (i j : Nat) (hc : X.calm = true) (hN : X.N.Nodup) (ha : EN X a ta wn) (hi : X.N[i]? = some x := by rfl) (hj : X.N[j]? = some y := by rfl) (hij : i ≠ j := by decide)
    (hx : X.env.scope.names.lookup x = some .local := by rfl) (hy : X.env.scope.names.lookup y = some .local := by rfl)
    (hw : swappedStores [.Tuple [.Name x px, .Name y py] kt pt] (.Tuple [a, .List [] pl] k2 pt2) X.env = pure (some [x, y]) := by rfl)
    (hs : swapsWithSole [.Tuple [.Name x px, .Name y py] kt pt] (.Tuple [a, .List [] pl] k2 pt2) pos.line X.env = pure false := by rfl)
    (h1 : starEach [a, .List [] pl] X.env = (false, eval a X.env) :: starEach [.List [] pl] X.env := by rfl) (h2 : starEach [.List [] pl] X.env = (false, eval (.List [] pl) X.env) :: starEach [] X.env := by rfl) :
    SV X (.Assign [.Tuple [.Name x px, .Name y py] kt pt] (.Tuple [a, .List [] pl] k2 pt2) pos) (tPar i j (tCons ta (tCons (tLst tNil) tNil))) (wParN0 i j wn) :=
  ⟨ps_par hc hN hi hj hij hx hy (pa_cons ha.pe (pa_cons (pe_lst pa_nil) pa_nil h2) h1) hw hs, fun F ρ N σ S H D hw R T =>
  ha.sd F ρ _ σ S H _ hw R fun ds ρ1 o vs S1 H1 q1 R1 s1 B1 d1 => ⟨Nat.zero_le _, fun p n => ⟨.ref o, .ref p, rfl, by
    have R2 := R1.lay n (.lst [])
    have B : Bare F S1 (upd H1 p (.lst [])) σ ρ1 p [] := R1.bare n
    have ne : o ≠ p := ne_of_none B1.at_ n
    have R3 := R2.setOwn (p := o) (vs := vs) i (by rw [upd_ne ne]; exact B1.at_) B1.s B1.h0 B1.ap d1
    refine T.nx _ _ S1 _ q1 (R3.setOwn (p := p) (vs := []) j B.at_ B.s B.h0 (fun k m es e z => ?_) .nil) s1
    rcases get_set e with ⟨rfl, e, hl⟩ | ⟨hk, e⟩
    · rw [List.getElem?_set_self (by rw [R2.len]; exact hl)] at z
      cases z
      exact ne rfl
    · rw [List.getElem?_set_ne (Ne.symm hk)] at z
      exact B.ap k m es e z⟩⟩⟩
end

/-! ### for -/
/-- a list, or a tuple: which one is said ahead -/
def iSeq (K : PySem.W.Frag) (tl : TE) : TI := fun σ H R => iList K tl σ H R ∨ iTup K tl σ H R
theorem pi_seq {tg l : Expr} {tl : TE} (hl : PE X l tl) : PI X tg l (iSeq X.K tl) :=
  ⟨fun pins s σ H R I h => h.elim (fun h => (pi_list hl).run pins s σ H R I h) fun h => (pi_tup hl).run pins s σ H R I h⟩
def seqOf (tupS : Bool) (ds : List PyData) : PyData := if tupS = true then .tuple ds else .list ds
def wFor (we : W1) (wg : WG) (wb : WS) : WS := fun ρ N => ∃ tupS : Bool, we ρ fun d ρ1 => ∃ ds, d = seqOf tupS ds ∧ ∃ I : Nat → En → Prop, I 0 ρ1 ∧
  (∀ k x ρ2, ds[k]? = some x → I k ρ2 → wg x ρ2 fun ρ3 => Later wb ρ3 { N with nx := I (k + 1), ct := I (k + 1), bk := N.nx }) ∧ ∀ ρ2, I ds.length ρ2 → N.nx ρ2
theorem sv_for {tg it : Expr} {body : List Stmt} {ti : TE} {wi : W1} {g : TG} {wg : WG} {tb : TS} {wb : WS} {ts : List Nat} (hi : EV X it ti wi) (hg : GV X tg g ts wg) (hb : SVs X body tb wb)
    (hp : PassesOwn (model X.prog X.w) X.A X.env X.xe) (hc : X.calm = true) (hs : ∀ x, foldedSetIterable it X.env x = pure x := by intro _; rfl) : SV X (.For tg it body [] pos) (tFor (iSeq X.K ti) g tb) (wFor wi wg wb) := ⟨ps_for hp hc (pi_seq hi.pe) hg.pg hb.ps hs, fun F ρ N σ S H D hw R T => by
  obtain ⟨tupS, hw⟩ := hw
  have step : ∀ (ds : List PyData) (I : Nat → En → Prop) (xs : List V) (S1 : Hp), DqAll X.K S1 xs ds → Same S S1 → (∀ k x ρ2, ds[k]? = some x → I k ρ2 → wg x ρ2 fun ρ3 => Later wb ρ3 { N with nx := I (k + 1), ct := I (k + 1), bk := N.nx }) →
      ∀ (i : Nat) (x : V) (σ : L2.St) (H : Hp), xs[i]? = some x → (∃ S' ρ', Rep X.K F S' H σ ρ' ∧ Same S1 S' ∧ I i ρ') →
        g x σ H fun σ2 H2 => tb { D with nx := fun σ H => ∃ S' ρ', Rep X.K F S' H σ ρ' ∧ Same S1 S' ∧ I (i + 1) ρ', ct := fun σ H => ∃ S' ρ', Rep X.K F S' H σ ρ' ∧ Same S1 S' ∧ I (i + 1) ρ', bk := D.nx } σ2 H2 := fun ds I xs S1 hd s1 turn i x σ H hx ⟨S', ρ', R', sm, hI⟩ => by
    obtain ⟨y, hy, dy⟩ := hd.at' hx
    refine hg.sd F ρ' _ σ S' H x y _ (turn i y ρ' hy hI) R' (dp_mono sm y x dy) fun ρ3 σ3 h3 R3 _ => ?_
    refine hb.sd F ρ3 _ σ3 S' H _ h3 R3 ⟨fun ρ4 σ4 S4 H4 h4 R4 s4 => ⟨S4, ρ4, R4, sm.trans s4, h4⟩, fun d4 ρ4 v4 σ4 S4 H4 h4 R4 s4 d4' => T.rt d4 ρ4 v4 σ4 S4 H4 h4 R4 (s1.trans (sm.trans s4)) d4',
      fun ρ4 σ4 S4 H4 h4 R4 s4 => T.nx ρ4 σ4 S4 H4 h4 R4 (s1.trans (sm.trans s4)), fun ρ4 σ4 S4 H4 h4 R4 s4 => ⟨S4, ρ4, R4, sm.trans s4, h4⟩, fun d4 ρ4 p4 v4 σ4 S4 H4 h4 R4 s4 B4 k4 => T.rn d4 ρ4 p4 v4 σ4 S4 H4 h4 R4 (s1.trans (sm.trans s4)) B4 k4⟩
  cases tupS with
  | false =>
    refine .inl (hi.sd F ρ _ σ S H _ hw R fun d ρ1 v S1 H1 h1 R1 s1 d1 => ?_)
    obtain ⟨ds, ed, I, i0, turn, fin⟩ := h1
    subst ed
    cases d1 with
    | @lst a xs _ sq hd => exact ⟨a, rfl, ⟨xs, same_sqL R1.sub sq⟩, for_list (xs := xs) (fun i σ H => ∃ S' ρ', Rep X.K F S' H σ ρ' ∧ Same S1 S' ∧ I i ρ') ⟨S1, ρ1, R1, Same.refl _, i0⟩ (fun i σ H _ ⟨S', ρ', R', sm, _⟩ => same_sqL (sm.trans R'.sub) sq) (step ds I xs S1 hd s1 turn)
        fun σ H ⟨S', ρ', R', sm, hI⟩ => T.nx ρ' σ S' H (fin ρ' (hd.len ▸ hI)) R' (s1.trans sm)⟩
  | true =>
    refine .inr (hi.sd F ρ _ σ S H _ hw R fun d ρ1 v S1 H1 h1 R1 s1 d1 => ?_)
    obtain ⟨ds, ed, I, i0, turn, fin⟩ := h1
    subst ed
    cases d1 with
    | @tup a xs _ sq hd => exact ⟨a, rfl, ⟨xs, same_sqT R1.sub sq⟩, for_tup (xs := xs) (fun i σ H => ∃ S' ρ', Rep X.K F S' H σ ρ' ∧ Same S1 S' ∧ I i ρ') ⟨S1, ρ1, R1, Same.refl _, i0⟩ (fun i σ H _ ⟨S', ρ', R', sm, _⟩ => same_sqT (sm.trans R'.sub) sq) (step ds I xs S1 hd s1 turn)
        fun σ H ⟨S', ρ', R', sm, hI⟩ => T.nx ρ' σ S' H (fin ρ' (hd.len ▸ hI)) R' (s1.trans sm)⟩⟩
/-- for x in range(e) -/
def wForR (we : W1) (wg : WG) (wb : WS) : WS := fun ρ N => we ρ fun d ρ1 => asInt d fun z => -(2 ^ 62) ≤ z ∧ z < 2 ^ 62 ∧ ∃ I : Nat → En → Prop, I 0 ρ1 ∧
  (∀ (k : Nat) ρ2, k < z.toNat → I k ρ2 → wg (.int k) ρ2 fun ρ3 => Later wb ρ3 { N with nx := I (k + 1), ct := I (k + 1), bk := N.nx }) ∧ ∀ ρ2, I z.toNat ρ2 → N.nx ρ2
theorem sv_forR {tg a : Expr} {body : List Stmt} {ti : TE} {wi : W1} {g : TG} {wg : WG} {tb : TS} {wb : WS} {p rp : Pos} {ts : List Nat} (hm : X.mg "range" = none) (hi : EV X a ti wi) (hg : GV X tg g ts wg) (hb : SVs X body tb wb)
    (hp : PassesOwn (model X.prog X.w) X.A X.env X.xe) (hc : X.calm = true) (hgl : Gl X "range" := by rfl) (hst : starEach [a] X.env = [(false, eval a X.env)] := by rfl) (hs : ∀ x, foldedSetIterable (.Call (.Name "range" p) [a] [] rp) X.env x = pure x := by intro _; rfl) :
    SV X (.For tg (.Call (.Name "range" p) [a] [] rp) body [] pos) (tFor (iRng1 (tCons ti tNil)) g tb) (wForR wi wg wb) := ⟨ps_for hp hc (pi_range1 hgl hm (pa_cons hi.pe pa_nil hst) hst) hg.pg hb.ps hs, fun F ρ N σ S H D hw R T =>
  hi.sd F ρ _ σ S H _ hw R fun d ρ1 v S1 H1 h1 R1 s1 d1 => by
    obtain ⟨z, rfl, b1, b2, I, i0, turn, fin⟩ := h1.out
    cases d1
    refine ⟨z, rfl, b1, b2, for_range (lo := 0) (n := z.toNat) (fun i σ H => ∃ S' ρ', Rep X.K F S' H σ ρ' ∧ Same S1 S' ∧ I i ρ') ⟨S1, ρ1, R1, Same.refl _, i0⟩ (fun i σ H hi' ⟨S', ρ', R', sm, hI⟩ => ?_) fun σ H ⟨S', ρ', R', sm, hI⟩ => T.nx ρ' σ S' H (fin ρ' hI) R' (s1.trans sm)⟩
    rw [show (0 : Int) + (i : Int) = (i : Int) by omega]
    refine hg.sd F ρ' _ σ S' H _ _ _ (turn i ρ' hi' hI) R' (.int i) fun ρ3 σ3 h3 R3 _ => ?_
    refine hb.sd F ρ3 _ σ3 S' H _ h3 R3 ⟨fun ρ4 σ4 S4 H4 h4 R4 s4 => ⟨S4, ρ4, R4, sm.trans s4, h4⟩, fun d4 ρ4 v4 σ4 S4 H4 h4 R4 s4 d4' => T.rt d4 ρ4 v4 σ4 S4 H4 h4 R4 (s1.trans (sm.trans s4)) d4',
      fun ρ4 σ4 S4 H4 h4 R4 s4 => T.nx ρ4 σ4 S4 H4 h4 R4 (s1.trans (sm.trans s4)), fun ρ4 σ4 S4 H4 h4 R4 s4 => ⟨S4, ρ4, R4, sm.trans s4, h4⟩, fun d4 ρ4 p4 v4 σ4 S4 H4 h4 R4 s4 B4 k4 => T.rn d4 ρ4 p4 v4 σ4 S4 H4 h4 R4 (s1.trans (sm.trans s4)) B4 k4⟩⟩
/-- while: a word and a measure -/
def wWhile (wc : WT) (wb : WS) : WS := fun ρ N => ∃ (I : Nat → En → Prop), (∃ m, I m ρ) ∧ ∀ m ρ1, I m ρ1 → wc ρ1 fun b ρ2 => if b = true then Later wb ρ2 { N with nx := fun ρ' => ∃ m', m' < m ∧ I m' ρ', ct := fun ρ' => ∃ m', m' < m ∧ I m' ρ', bk := N.nx } else N.nx ρ2
theorem sv_while {c : Expr} {body : List Stmt} {tc : TT} {wc : WT} {tb : TS} {wb : WS} (hc : ET X c tc wc) (hb : SVs X body tb wb) (hp : PassesOwn (model X.prog X.w) X.A X.env X.xe) : SV X (.While c body [] pos) (tWhile tc tb) (wWhile wc wb) := ⟨ps_while hp hc.pt hb.ps, fun F ρ N σ S H D hw R T => by
  obtain ⟨I, ⟨m0, i0⟩, turn⟩ := hw
  refine ⟨fun m σ H => ∃ S' ρ', Rep X.K F S' H σ ρ' ∧ Same S S' ∧ I m ρ', ⟨m0, S, ρ, R, Same.refl _, i0⟩, fun m σ H ⟨S', ρ', R', sm, hI⟩ => ?_⟩
  refine hc.sd F ρ' _ σ S' H _ (turn m ρ' hI) R' fun b ρ2 S2 H2 h2 R2 s2 => ?_
  cases b with
  | true =>
    rw [if_pos rfl] at h2 ⊢
    refine ⟨fun σ3 H3 => ∃ m', m' < m ∧ ∃ S' ρ', Rep X.K F S' H3 σ3 ρ' ∧ Same S S' ∧ I m' ρ', fun σ3 H3 h => h, ?_⟩
    exact hb.sd F ρ2 _ σ S2 H2 _ h2 R2 ⟨fun ρ4 σ4 S4 H4 ⟨m', hm, h4⟩ R4 s4 => ⟨m', hm, S4, ρ4, R4, sm.trans (s2.trans s4), h4⟩, fun d4 ρ4 v4 σ4 S4 H4 h4 R4 s4 d4' => T.rt d4 ρ4 v4 σ4 S4 H4 h4 R4 (sm.trans (s2.trans s4)) d4',
      fun ρ4 σ4 S4 H4 h4 R4 s4 => T.nx ρ4 σ4 S4 H4 h4 R4 (sm.trans (s2.trans s4)), fun ρ4 σ4 S4 H4 ⟨m', hm, h4⟩ R4 s4 => ⟨m', hm, S4, ρ4, R4, sm.trans (s2.trans s4), h4⟩, fun d4 ρ4 p4 v4 σ4 S4 H4 h4 R4 s4 B4 k4 => T.rn d4 ρ4 p4 v4 σ4 S4 H4 h4 R4 (sm.trans (s2.trans s4)) B4 k4⟩
  | false =>
    rw [if_neg Bool.false_ne_true] at h2 ⊢
    exact T.nx ρ2 σ S2 H2 h2 R2 (sm.trans s2)⟩
/-- x += e -/
theorem sv_augI (i : Nat) {x : Str} {pos' : Pos} (hN : X.N.Nodup) (he : EV X e te we) (hi : X.N[i]? = some x := by rfl) (hx : Loc X.env.scope x := by first | exact Or.inl rfl | exact Or.inr rfl) (hf : X.fn x = true ∨ X.env.scope.names.lookup x = some .local := by first | exact .inl rfl | exact .inr rfl | assumption) :
    SV X (.AugAssign (.Name x pos') .Add e pos) (tAug i te (ipI fun i j => i + j)) (wAugI i we) := ⟨ps_aug hN hi hx he.pe ip_add hf, fun F ρ N σ S H D hw R T => by
  unfold wAugI at hw
  obtain ⟨n, e1, hw⟩ : ∃ n, ρ[i]? = some (.val (.int n)) ∧ we ρ fun d ρ' => asInt d fun m => N.nx (ρ'.set i (.val (.int (n + m)))) := by
    unfold wLook at hw
    split at hw
    · obtain ⟨n, rfl, hw⟩ := hw.out
      exact ⟨n, by assumption, hw⟩
    · obtain ⟨n, z, _⟩ := hw.out
      cases z
    · exact hw.elim
  obtain ⟨v, g1, g2⟩ := R.at_ i _ e1
  cases g2
  refine ⟨_, g1, he.sd F ρ _ σ S H _ hw R fun d ρ1 v1 S1 H1 h1 R1 s1 d1 => ?_⟩
  obtain ⟨m, rfl, h1⟩ := h1.out
  cases d1
  exact ⟨n, m, rfl, rfl, T.nx _ _ S1 H1 h1 (R1.set i (.int _)) s1⟩⟩
end

/-! ### defs -/
/-- what a def promises over trees: n arguments, none of them changed -/
abbrev TSp := List PyData → (PyData → Prop) → Prop
/-- what a call leaves: the tables may have grown, all else stands -/
structure Left (H H' : Hp) : Prop where
  at_ : ∀ b o, ¬ Tb b → H b = some o → H' b = some o
  tok : CodeTabs H'
/-- what a call finds: the tables as they should be, and none of them in the still part -/
structure Found (S H : Hp) : Prop where
  tok : CodeTabs H
  off : ∀ b, Tb b → S b = none
def spV (K : PySem.W.Frag) (n : Nat) (T : TSp) : Sp := fun vs H Q _ => ∃ S ds P, Same S H ∧ Found S H ∧ DqAll K S vs ds ∧ ds.length = n ∧ T ds P ∧
  ∀ d v S' H', P d → Same S S' → Same S' H' → (∀ b, S b = none → S' b ≠ none → H b = none) → Left H H' → Dq K S' v d → Q v H'
/-- .. and the first argument is a list that it changes: n others -/
abbrev TSm := List PyData → List PyData → (PyData → List PyData → Prop) → Prop
def spM (K : PySem.W.Frag) (n : Nat) (T : TSm) : Sp := fun vs H Q _ => ∃ S a us vr cs ds P, vs = .ref a :: vr ∧ Same S H ∧ Found S H ∧ H a = some (.lst us) ∧ S a = none ∧ DqAll K S us cs ∧ DqAll K S vr ds ∧ ds.length = n ∧ T cs ds P ∧
  ∀ d cs' us' v S' H', P d cs' → Same S S' → Same S' H' → (∀ b, S b = none → S' b ≠ none → H b = none) → (∀ b o, b ≠ a → ¬ Tb b → H b = some o → H' b = some o) → CodeTabs H' → H' a = some (.lst us') → S' a = none → DqAll K S' us' cs' → Dq K S' v d → Q v H'
theorem spV_len {K : PySem.W.Frag} {n : Nat} {T : TSp} (vs : List V) (H : Hp) (Q : VK) (E : XK) (h : spV K n T vs H Q E) : vs.length = n := by
  obtain ⟨S, ds, P, _, _, hd, hl, _⟩ := h
  rw [hd.len, hl]
theorem spM_len {K : PySem.W.Frag} {n : Nat} {T : TSm} (vs : List V) (H : Hp) (Q : VK) (E : XK) (h : spM K n T vs H Q E) : vs.length = n + 1 := by
  obtain ⟨S, a, us, vr, cs, ds, P, rfl, _, _, _, _, _, hd, hl, _⟩ := h
  rw [List.length_cons, hd.len, hl]
theorem Left.none {H H' : Hp} (l : Left H H') {b : Addr} (n : H' b = none) : H b = none := by
  cases e : H b with
  | none => rfl
  | some o =>
    by_cases h : Tb b
    · obtain ⟨ps, z⟩ := l.tok.tbl h
      rw [n] at z
      cases z
    · rw [l.at_ b o h e] at n
      cases n
theorem CodeTabs.ns {H : Hp} (h : CodeTabs H) {b : Addr} {x : HO} (so : Solid x) (e : H b = some x) : ¬ Tb b := fun z => by
  obtain ⟨ps, w⟩ := h.tbl z
  rw [w] at e
  cases e
  exact so.2.1 ps rfl
theorem Objs.call {K : PySem.W.Frag} {F : Fm} {S S' H H' : Hp} {σ : L2.St} {ρ : En} (O : Objs K F S H σ ρ) (tok : CodeTabs H) (e : Same S S') (fresh : ∀ b, S b = none → S' b ≠ none → H b = none) (l : Left H H') : Objs K F S' H' σ ρ :=
  O.heap e (fun b x ex so => l.at_ b x (tok.ns so ex) ex) fun b x ex so hb => by
    cases hS : S' b with
    | none => rfl
    | some o =>
      have := fresh b hb (by rw [hS]; simp)
      rw [ex] at this
      cases this
theorem Rep.found {K : PySem.W.Frag} {F : Fm} {S H : Hp} {σ : L2.St} {ρ : En} (R : Rep K F S H σ ρ) : Found S H := ⟨R.tok, fun b h => (R.mt b (R.tfree b h)).2⟩
/-- the slots at the entry -/
def startE (N : List Str) (ds : List PyData) : En := ds.map .val ++ List.replicate (N.length - ds.length) .un
def startM (N : List Str) (cs ds : List PyData) : En := .own true cs :: (ds.map .val ++ List.replicate (N.length - (ds.length + 1)) .un)
theorem at_start {vs : List V} {ds : List PyData} {K : PySem.W.Frag} {S : Hp} {k : Nat} (h : DqAll K S vs ds) {i : Nat} {d : PyData} (e : (ds.map Sl.val ++ List.replicate k Sl.un)[i]? = some (.val d)) : ∃ v, (vs.map some ++ List.replicate k none)[i]? = some (some v) ∧ Dq K S v d := by
  have hl := h.len
  by_cases hi : i < ds.length
  · rw [List.getElem?_append_left (by simpa using hi), List.getElem?_map] at e
    cases e2 : ds[i]? with
    | none => rw [e2] at e; cases e
    | some d' =>
      rw [e2] at e
      cases e
      obtain ⟨v, h1, h2⟩ := h.at e2
      exact ⟨v, by rw [List.getElem?_append_left (by simp; omega), List.getElem?_map, h1]; rfl, h2⟩
  · rw [List.getElem?_append_right (by simpa using hi), List.getElem?_replicate] at e
    split at e <;> cases e
theorem no_own {ds : List PyData} {k i : Nat} {m : Bool} {es : List PyData} : (ds.map Sl.val ++ List.replicate k Sl.un)[i]? ≠ some (.own m es) := fun e => by
  by_cases hi : i < ds.length
  · rw [List.getElem?_append_left (by simpa using hi), List.getElem?_map] at e
    cases e2 : ds[i]? with
    | none => rw [e2] at e; cases e
    | some d' => rw [e2] at e; cases e
  · rw [List.getElem?_append_right (by simpa using hi), List.getElem?_replicate] at e
    split at e <;> cases e
theorem no_dic {ds : List PyData} {k i : Nat} {m : List (Str × PyData)} : (ds.map Sl.val ++ List.replicate k Sl.un)[i]? ≠ some (.dic m) := fun e => by
  by_cases hi : i < ds.length
  · rw [List.getElem?_append_left (by simpa using hi), List.getElem?_map] at e
    cases e2 : ds[i]? with
    | none => rw [e2] at e; cases e
    | some d' => rw [e2] at e; cases e
  · rw [List.getElem?_append_right (by simpa using hi), List.getElem?_replicate] at e
    split at e <;> cases e
theorem no_obj {ds : List PyData} {k i : Nat} {o : Ob} : (ds.map Sl.val ++ List.replicate k Sl.un)[i]? ≠ some (.obj o) := fun e => by
  by_cases hi : i < ds.length
  · rw [List.getElem?_append_left (by simpa using hi), List.getElem?_map] at e
    cases e2 : ds[i]? with
    | none => rw [e2] at e; cases e
    | some d' => rw [e2] at e; cases e
  · rw [List.getElem?_append_right (by simpa using hi), List.getElem?_replicate] at e
    split at e <;> cases e
theorem rep_start {K : PySem.W.Frag} {S H : Hp} {vs : List V} {ds : List PyData} (N : List Str) (sm : Same S H) (fo : Found S H) (hd : DqAll K S vs ds) : Rep K ⟨H, Tb, S⟩ S H (L2.start N vs) (startE N ds) where
  sub := sm
  s0 := Same.refl S
  fresh := fun b h1 h2 => absurd h1 h2
  keep := fun b o e _ => e
  m0 := fun b h => by
    obtain ⟨ps, e⟩ := fo.tok.tbl h
    show H b ≠ none
    rw [e]
    simp
  mt := fun b h => by
    obtain ⟨ps, e⟩ := fo.tok.tbl h
    rw [e]
    exact ⟨by simp, fo.off b h⟩
  tok := fo.tok
  tfree := fun b h => h
  len := by
    have := hd.len
    unfold L2.start startE
    simp only [List.length_append, List.length_map, List.length_replicate]
    omega
  at_ := fun i d e => by
    unfold L2.start
    rw [hd.len]
    exact at_start hd e
  own := fun i m es e => absurd e no_own
  apart := fun i j m n es fs _ e _ => absurd e no_own
  dic := fun i m e => absurd e no_dic
  obj := Objs.nobody fun i o e => no_obj e
theorem rep_startM {K : PySem.W.Frag} {S H : Hp} {a : Addr} {us vs : List V} {cs ds : List PyData} (N : List Str) (sm : Same S H) (fo : Found S H) (ea : H a = some (.lst us)) (es : S a = none) (hc : DqAll K S us cs) (hd : DqAll K S vs ds) :
    Rep K ⟨H, fun b => b = a ∨ Tb b, S⟩ S H (L2.start N (.ref a :: vs)) (startM N cs ds) where
  sub := sm
  s0 := Same.refl S
  fresh := fun b h1 h2 => absurd h1 h2
  keep := fun b o e _ => e
  m0 := fun b h => by
    show H b ≠ none
    rcases h with rfl | h
    · rw [ea]
      simp
    · obtain ⟨ps, e⟩ := fo.tok.tbl h
      rw [e]
      simp
  mt := fun b h => by
    rcases h with rfl | h
    · exact ⟨by rw [ea]; simp, es⟩
    · obtain ⟨ps, e⟩ := fo.tok.tbl h
      rw [e]
      exact ⟨by simp, fo.off b h⟩
  tok := fo.tok
  tfree := fun b h => .inr h
  len := by
    have := hd.len
    unfold L2.start startM
    simp only [List.length_append, List.length_map, List.length_replicate, List.length_cons]
    omega
  at_ := fun i d e => by
    unfold L2.start startM at *
    cases i with
    | zero => simp at e
    | succ i =>
      simp only [List.getElem?_cons_succ, List.map_cons, List.cons_append, List.length_cons] at e ⊢
      rw [hd.len]
      exact at_start hd e
  own := fun i m fs e => by
    unfold startM at e
    cases i with
    | zero =>
      simp at e
      obtain ⟨rfl, rfl⟩ := e
      exact ⟨a, us, rfl, ea, es, hc, by rw [if_pos rfl]; exact .inl rfl⟩
    | succ i =>
      simp only [List.getElem?_cons_succ] at e
      exact absurd e no_own
  apart := fun i j m n fs gs hne e e' => by
    unfold startM at e e'
    cases i with
    | zero =>
      cases j with
      | zero => exact absurd rfl hne
      | succ j =>
        simp only [List.getElem?_cons_succ] at e'
        exact absurd e' no_own
    | succ i =>
      simp only [List.getElem?_cons_succ] at e
      exact absurd e no_own
  dic := fun i m e => by
    unfold startM at e
    cases i with
    | zero => simp at e
    | succ i =>
      simp only [List.getElem?_cons_succ] at e
      exact absurd e no_dic
  obj := Objs.nobody fun i o e => by
    unfold startM at e
    cases i with
    | zero => simp at e
    | succ i =>
      simp only [List.getElem?_cons_succ] at e
      exact no_obj e
section
variable {P : Program} {w : World} {K : PySem.W.Frag} {mg : Str → Option Value} {base : Heap}
/-- THE RULE for a def that changes nothing: its body's reading over trees -/
theorem fn_pure {x qual : Str} {st : Stmt} {f : Addr} {fd : FuncData} {N ps : List Str} {k n : Nat} {T : TSp} (Fn : Fun K x qual st f fd) (Sc : FnScope N ps (defScope st)) (hn : ps.length = n)
    (hbody : ∀ (cdv : Value) (A : Around) (outer : List Env) (s : Shared) (H : Hp) (E : XK), Room k (A.deeper (envOfC qual (defScope st) s.heap.objs.size f cdv)) →
      ∃ t wt, SVs (cxOf (L2.CX P w) P w K mg base N qual (defScope st) f cdv A outer s H E).nox (defBody st) t wt ∧ ∀ ds P', ds.length = n → T ds P' → wt (startE N ds) { nx := fun _ => P' .none, rt := fun d _ => P' d }) :
    FnOk P w K mg base (L2.CX P w) (k + 1) f fd ps (spV K n T) := by
  refine Fn.okX Sc (fun vs H Q E h => (spV_len vs H Q E h).trans hn.symm) fun cdv A outer s H vs Q E hr hsp => ?_
  obtain ⟨t, wt, hb, hw⟩ := hbody cdv A outer s H E hr
  refine ⟨t, hb.ps.nox, ?_⟩
  obtain ⟨S, ds, P', sm, fo, hd, hl, hT, q⟩ := hsp
  have R := rep_start N sm fo hd
  refine hb.sd _ _ _ _ S H _ (hw ds P' hl hT) R ⟨fun ρ' σ' S' H' h R' s' => ?_, fun d ρ' v σ' S' H' h R' s' hd' => ?_, fun _ _ _ _ h _ _ => h.elim, fun _ _ _ _ h _ _ => h.elim, fun _ _ _ _ _ _ _ h _ _ _ _ => h.elim⟩
  · exact q .none .non S' H' h s' R'.sub (fun b h1 h2 => R'.fresh b h1 h2) ⟨fun b o nt e => R'.keep b o e nt, R'.tok⟩ .non
  · exact q d v S' H' h s' R'.sub (fun b h1 h2 => R'.fresh b h1 h2) ⟨fun b o nt e => R'.keep b o e nt, R'.tok⟩ hd'
/-- .. for a def that changes the list that is its first argument -/
theorem fn_mut {x qual : Str} {st : Stmt} {f : Addr} {fd : FuncData} {N ps : List Str} {k n : Nat} {T : TSm} (Fn : Fun K x qual st f fd) (Sc : FnScope N ps (defScope st)) (hn : ps.length = n + 1)
    (hbody : ∀ (cdv : Value) (A : Around) (outer : List Env) (s : Shared) (H : Hp) (E : XK), Room k (A.deeper (envOfC qual (defScope st) s.heap.objs.size f cdv)) →
      ∃ t wt, SVs (cxOf (L2.CX P w) P w K mg base N qual (defScope st) f cdv A outer s H E).nox (defBody st) t wt ∧
        ∀ cs ds P', ds.length = n → T cs ds P' → wt (startM N cs ds) { nx := fun ρ => ownAt ρ 0 fun m cs' => m = true ∧ P' .none cs', rt := fun d ρ => ownAt ρ 0 fun m cs' => m = true ∧ P' d cs' }) :
    FnOk P w K mg base (L2.CX P w) (k + 1) f fd ps (spM K n T) := by
  refine Fn.okX Sc (fun vs H Q E h => (spM_len vs H Q E h).trans hn.symm) fun cdv A outer s H vs Q E hr hsp => ?_
  obtain ⟨t, wt, hb, hw⟩ := hbody cdv A outer s H E hr
  refine ⟨t, hb.ps.nox, ?_⟩
  obtain ⟨S, a, us, vr, cs, ds, P', rfl, sm, fo, ea, es, hc, hd, hl, hT, q⟩ := hsp
  have R := rep_startM N sm fo ea es hc hd
  have fin : ∀ (d : PyData) (v : V) (ρ' : En) (σ' : L2.St) (S' H' : Hp), (ownAt ρ' 0 fun m cs' => m = true ∧ P' d cs') → Rep K ⟨H, fun b => b = a ∨ Tb b, S⟩ S' H' σ' ρ' → Same S S' → Dq K S' v d → Q v H' := fun d v ρ' σ' S' H' ho R' s' hd' => by
    obtain ⟨m, cs', ei, rfl, hp⟩ := ho.out
    obtain ⟨a', us', g1, g2, g3, g4, g5⟩ := R'.own 0 true cs' ei
    have g5' : a' = a := (show a' = a ∨ Tb a' from g5).resolve_right (R'.tok.nl g2)
    subst g5'
    exact q d cs' us' v S' H' hp s' R'.sub (fun b h1 h2 => R'.fresh b h1 h2) (fun b o hb nt e => R'.keep b o e fun z => z.elim hb nt) R'.tok g2 g3 g4 hd'
  exact hb.sd _ _ _ _ S H _ (hw cs ds P' hl hT) R ⟨fun ρ' σ' S' H' h R' s' => fin .none .non ρ' σ' S' H' h R' s' .non, fun d ρ' v σ' S' H' h R' s' hd' => fin d v ρ' σ' S' H' h R' s' hd', fun _ _ _ _ h _ _ => h.elim, fun _ _ _ _ h _ _ => h.elim, fun _ _ _ _ _ _ _ h _ _ _ _ => h.elim⟩
end
/-! ### calls of defs -/
def wCall (n : Nat) (T : TSp) (wa : WA) : W1 := fun ρ P => wa ρ fun ds ρ1 => ds.length = n ∧ T ds fun d => P d ρ1
def wCall0 (T : TSp) : W1 := fun ρ P => T [] fun d => P d ρ
def wCallM (i n : Nat) (Tm : TSm) (wa : WA) : W1 := fun ρ P => ownAt ρ i fun _ _ => wa ρ fun ds ρ1 => ds.length = n ∧ ownAt ρ1 i fun m cs => Tm cs ds fun d cs' => P d (ρ1.set i (.own m cs'))
def wCallN (n : Nat) (T : List PyData → (List PyData → Prop) → Prop) (wa : WA) : WA := fun ρ P => wa ρ fun ds ρ1 => ds.length = n ∧ T ds fun es => P es ρ1
section
variable {X : Cx} {k n : Nat} {f : Addr} {fd : FuncData} {ps : List Str} {T : TSp} {Tm : TSm} {x : Str} {p pos : Pos} {e : Expr} {es : List Expr} {t : TA} {wa : WA}
/-- a call of such a def, by any way of handing over the arguments -/
theorem snd_spV {K : PySem.W.Frag} {F : Fm} {S H : Hp} {σ : L2.St} {ρ : En} {P : PyData → En → Prop} {Q : VK} {vs : List V} {ds : List PyData} {E : XK} (R : Rep K F S H σ ρ) (hd : DqAll K S vs ds) (hn : ds.length = n) (hT : T ds fun d => P d ρ)
    (q : ∀ d ρ' v S' H', P d ρ' → Rep K F S' H' σ ρ' → Same S S' → Dq K S' v d → Q v H') : spV K n T vs H Q E := by
  refine ⟨S, ds, _, R.sub, R.found, hd, hn, hT, fun d v S' H' hp sm sub fresh keep hv => q d ρ v S' H' hp ?_ sm hv⟩
  refine ⟨sub, R.s0.trans sm, fun b h1 h2 => ?_, fun b o e hm => keep.at_ b o (fun z => hm (R.tfree b z)) (R.keep b o e hm), R.m0, fun b hm => ⟨fun z => (R.mt b hm).1 (keep.none z), ?_⟩, keep.tok, R.tfree, R.len, fun i d e => ?_, fun i m cs e => ?_, R.apart, fun i m e => (R.dic i m e).imp fun v h => ⟨h.1, dic_mono sm h.2⟩, R.obj.call R.tok sm fresh keep⟩
  · cases hS : S b with
    | none => exact R.h0 (fresh b hS h2)
    | some o => exact R.fresh b h1 (by rw [hS]; simp)
  · cases hS' : S' b with
    | none => rfl
    | some o => exact absurd (fresh b (R.mt b hm).2 (by rw [hS']; simp)) (R.mt b hm).1
  · obtain ⟨v, h1, h2⟩ := R.at_ i d e
    exact ⟨v, h1, dp_mono sm d v h2⟩
  · obtain ⟨a, us, h1, h2, h3, h4, h5⟩ := R.own i m cs e
    refine ⟨a, us, h1, keep.at_ a _ (R.tok.nl h2) h2, ?_, dpAll_mono sm cs us h4, h5⟩
    cases hS' : S' a with
    | none => rfl
    | some o =>
      have := fresh a h3 (by rw [hS']; simp)
      rw [h2] at this
      cases this
theorem ev_call (G : FnOk X.prog X.w X.K X.mg X.base (L2.CX X.prog X.w) k f fd ps (spV X.K n T)) (hr : Room k X.A) (hm : X.mg x = some (.ref f)) (hk : PySem.W.keepIn X.K (.ref f) = true) (hb : Binds X.K fd ps []) (ha : EA X (e :: es) t wa)
    (hg : Gl X x := by rfl) (hdb : (x == ("__debug__" : Str)) = false := by decide) (he : starEach (e :: es) X.env = (false, eval e X.env) :: starEach es X.env := by rfl) (hpl : (backTo pos (starEach es X.env)).any (·.1) = false := by rfl) :
    EV X (.Call (.Name x p) (e :: es) [] pos) (tCall (spV X.K n T) [] E0 t) (wCall n T wa) := ⟨pe_call G hr hg hm hk hb .nil passL ha.pa hdb he hpl, fun F ρ P σ S H Q hw R q =>
  ha.sd F ρ _ σ S H _ hw R fun ds ρ1 vs S1 H1 h1 R1 s1 d1 => by
    rw [List.append_nil]
    exact snd_spV R1 d1 h1.1 h1.2 fun d ρ' v S' H' hp R' sm hv => q d ρ' v S' H' hp R' (s1.trans sm) hv⟩
theorem ev_call0 (G : FnOk X.prog X.w X.K X.mg X.base (L2.CX X.prog X.w) k f fd ps (spV X.K 0 T)) (hr : Room k X.A) (hm : X.mg x = some (.ref f)) (hk : PySem.W.keepIn X.K (.ref f) = true) (hb : Binds X.K fd ps [])
    (hg : Gl X x := by rfl) (hdb : (x == ("__debug__" : Str)) = false := by decide) :
    EV X (.Call (.Name x p) [] [] pos) (tCall (spV X.K 0 T) [] E0 tNil) (wCall0 T) := ⟨pe_call0 G hr hg hm hk hb .nil passL hdb, fun F ρ P σ S H Q hw R q =>
  snd_spV (E := E0) (vs := []) R .nil rfl hw q⟩
end
end Tr
set_option Elab.async false
set_option linter.all false
set_option maxRecDepth 100000
set_option maxHeartbeats 2000000
/-! Tr4: defs that run where no repr is under way (the guards are told), their calls, the law's entry -/
namespace Tr
open PySem PySem.Spec PyProof.Rows L2
variable [Tabbed]

/-- a def keeps its promise wherever no guard stands on the stack -/
def FnG (P : Program) (w : World) (K : PySem.W.Frag) (mg : Str → Option Value) (base : Heap) (k : Nat) (f : Addr) (fd : FuncData) (ps : List Str) (sp : Sp) : Prop :=
  (∀ vs H Q E, sp vs H Q E → vs.length = ps.length) ∧
  ∀ (A : Around) (o : List Env) (s : Shared) (H : Hp) (g : Args) (us : List Value) (vs : List V) (Q : VK) (E : XK), A.guards = some [] → Room k A → Env0 P w K mg base A o s H → BindsTo s fd g (ps.zip us) →
    Vals vs us → sp vs H Q E → codeAny (model P w) A (.call (.ref f) g) (CR (L2.CX P w) o P w H s Q E) s
theorem FnG.of {P : Program} {w : World} {K : PySem.W.Frag} {mg : Str → Option Value} {base : Heap} {k : Nat} {f : Addr} {fd : FuncData} {ps : List Str} {sp : Sp} (G : FnOk P w K mg base (L2.CX P w) k f fd ps sp) : FnG P w K mg base k f fd ps sp :=
  ⟨G.len, fun A o s H g us vs Q E _ hr e hb hv hs => G.run A o s H g us vs Q E hr e hb hv hs⟩

section
variable {P : Program} {w : World} {K : PySem.W.Frag} {mg : Str → Option Value} {base : Heap}
theorem Fun.okG {x qual : Str} {st : Stmt} {f : Addr} {fd : FuncData} {N ps : List Str} {k : Nat} {sp : Sp} (Fn : Fun K x qual st f fd) (Sc : FnScope N ps (defScope st)) (hlen : ∀ vs H Q E, sp vs H Q E → vs.length = ps.length)
    (hbody : ∀ (c : Value) (A : Around) (o : List Env) (s : Shared) (H : Hp) (vs : List V) (Q : VK) (E : XK), A.guards = some [] → Room k (A.deeper (envOfC qual (defScope st) s.heap.objs.size f c)) → sp vs H Q E →
      ∃ t, PSs (cxOf (L2.CX P w) P w K mg base N qual (defScope st) f c A o s H E) (defBody st) t ∧ t { nx := fun _ H' => Q .non H', rt := Q } (L2.start N vs) H) : FnG P w K mg base (k + 1) f fd ps sp := by
  obtain ⟨oc, od, kV, doc, pm, an, c, ct, osl, hfd, lk, hcd⟩ := Fn.ex
  subst hfd
  refine ⟨hlen, fun A o s H g us vs Q E hgd hr e0 hb hv hs => ?_⟩
  have lim := e0.mod.nolimit.keeps fun b ob h => (e0.bs b ob h).1
  have kin : K.In s.heap := e0.mod.kin.keeps fun b ob h => (e0.bs b ob h).1
  refine codeAny_call_function hr.depth (kin _ _ lk) rfl Sc.co Sc.gen rfl (PySem.W.codeRec_of kin hcd) (hb _ _ _ _ ?_)
  have names : ∀ y ∈ ps.zip us, (defScope st).names.lookup y.1 = some .local ∨ ((defScope st).names.lookup y.1 = some .cell ∧ ((cellsFrom (s.heap.objs.size + 1) (defScope st).names []).lookup y.1).isSome = true) := by
    rintro ⟨y, u⟩ hy
    cases Sc.par y (List.of_mem_zip hy).1 with
    | inl q => exact Or.inl q
    | inr q => exact Or.inr ⟨q, PySem.W.cellsFrom_some _ _ _ (Or.inl q)⟩
  refine wpAny_newFunctionEnv_cells Sc.kind names fun env he s2 x2 => ?_
  subst he
  refine ⟨lim.keeps x2.toInCall.keep, ?_⟩
  obtain ⟨t, ht, hq⟩ := hbody c A o s H vs Q E hgd (hr.deeper _) hs
  refine codeAny_func (wpAny_mono (ht.run [] s2 (L2.start N vs) H _ (inv_start Sc hr.hd e0 (hlen _ _ _ _ hs) hv x2) hq) (fun fl s3 h3 => ?_) fun _ _ h3 => h3)
  match fl, h3 with
  | .next, ⟨σ', H', J, q⟩ => exact ⟨.non, H', J.os, J.bare, J.base, J.hok, rfl, q⟩
  | .ret u, ⟨v, σ', H', J, rv, q⟩ => exact ⟨v, H', J.os, J.bare, J.base, J.hok, rv, q⟩
  | .brk, ⟨_, _, _, q⟩ => exact False.elim q
  | .cont, ⟨_, _, _, q⟩ => exact False.elim q
/-- a def that changes nothing -/
theorem fn_pureG {x qual : Str} {st : Stmt} {f : Addr} {fd : FuncData} {N ps : List Str} {k n : Nat} {T : TSp} (Fn : Fun K x qual st f fd) (Sc : FnScope N ps (defScope st)) (hn : ps.length = n)
    (hbody : ∀ (cdv : Value) (A : Around) (outer : List Env) (s : Shared) (H : Hp) (E : XK), A.guards = some [] → Room k (A.deeper (envOfC qual (defScope st) s.heap.objs.size f cdv)) →
      ∃ t wt, SVs (cxOf (L2.CX P w) P w K mg base N qual (defScope st) f cdv A outer s H E).nox (defBody st) t wt ∧ ∀ ds P', ds.length = n → T ds P' → wt (startE N ds) { nx := fun _ => P' .none, rt := fun d _ => P' d }) :
    FnG P w K mg base (k + 1) f fd ps (spV K n T) := by
  refine Fun.okG Fn Sc (fun vs H Q E h => (spV_len vs H Q E h).trans hn.symm) fun cdv A outer s H vs Q E hgd hr hsp => ?_
  obtain ⟨t, wt, hb, hw⟩ := hbody cdv A outer s H E hgd hr
  refine ⟨t, hb.ps.nox, ?_⟩
  obtain ⟨S, ds, P', sm, fo, hd, hl, hT, q⟩ := hsp
  have R := rep_start N sm fo hd
  refine hb.sd _ _ _ _ S H _ (hw ds P' hl hT) R ⟨fun ρ' σ' S' H' h R' s' => ?_, fun d ρ' v σ' S' H' h R' s' hd' => ?_, fun _ _ _ _ h _ _ => h.elim, fun _ _ _ _ h _ _ => h.elim, fun _ _ _ _ _ _ _ h _ _ _ _ => h.elim⟩
  · exact q .none .non S' H' h s' R'.sub (fun b h1 h2 => R'.fresh b h1 h2) ⟨fun b o nt e => R'.keep b o e nt, R'.tok⟩ .non
  · exact q d v S' H' h s' R'.sub (fun b h1 h2 => R'.fresh b h1 h2) ⟨fun b o nt e => R'.keep b o e nt, R'.tok⟩ hd'
theorem fn_mutG {x qual : Str} {st : Stmt} {f : Addr} {fd : FuncData} {N ps : List Str} {k n : Nat} {T : TSm} (Fn : Fun K x qual st f fd) (Sc : FnScope N ps (defScope st)) (hn : ps.length = n + 1)
    (hbody : ∀ (cdv : Value) (A : Around) (outer : List Env) (s : Shared) (H : Hp) (E : XK), A.guards = some [] → Room k (A.deeper (envOfC qual (defScope st) s.heap.objs.size f cdv)) →
      ∃ t wt, SVs (cxOf (L2.CX P w) P w K mg base N qual (defScope st) f cdv A outer s H E).nox (defBody st) t wt ∧
        ∀ cs ds P', ds.length = n → T cs ds P' → wt (startM N cs ds) { nx := fun ρ => ownAt ρ 0 fun m cs' => m = true ∧ P' .none cs', rt := fun d ρ => ownAt ρ 0 fun m cs' => m = true ∧ P' d cs' }) :
    FnG P w K mg base (k + 1) f fd ps (spM K n T) := by
  refine Fun.okG Fn Sc (fun vs H Q E h => (spM_len vs H Q E h).trans hn.symm) fun cdv A outer s H vs Q E hgd hr hsp => ?_
  obtain ⟨t, wt, hb, hw⟩ := hbody cdv A outer s H E hgd hr
  refine ⟨t, hb.ps.nox, ?_⟩
  obtain ⟨S, a, us, vr, cs, ds, P', rfl, sm, fo, ea, es, hc, hd, hl, hT, q⟩ := hsp
  have R := rep_startM N sm fo ea es hc hd
  have fin : ∀ (d : PyData) (v : V) (ρ' : En) (σ' : L2.St) (S' H' : Hp), (ownAt ρ' 0 fun m cs' => m = true ∧ P' d cs') → Rep K ⟨H, fun b => b = a ∨ Tb b, S⟩ S' H' σ' ρ' → Same S S' → Dq K S' v d → Q v H' := fun d v ρ' σ' S' H' ho R' s' hd' => by
    obtain ⟨m, cs', ei, rfl, hp⟩ := ho.out
    obtain ⟨a', us', g1, g2, g3, g4, g5⟩ := R'.own 0 true cs' ei
    have g5' : a' = a := (show a' = a ∨ Tb a' from g5).resolve_right (R'.tok.nl g2)
    subst g5'
    exact q d cs' us' v S' H' hp s' R'.sub (fun b h1 h2 => R'.fresh b h1 h2) (fun b o hb nt e => R'.keep b o e fun z => z.elim hb nt) R'.tok g2 g3 g4 hd'
  exact hb.sd _ _ _ _ S H _ (hw cs ds P' hl hT) R ⟨fun ρ' σ' S' H' h R' s' => fin .none .non ρ' σ' S' H' h R' s' .non, fun d ρ' v σ' S' H' h R' s' hd' => fin d v ρ' σ' S' H' h R' s' hd', fun _ _ _ _ h _ _ => h.elim, fun _ _ _ _ h _ _ => h.elim, fun _ _ _ _ _ _ _ h _ _ _ _ => h.elim⟩
end

section
variable {X : Cx} {k n : Nat} {f : Addr} {fd : FuncData} {ps : List Str} {T : TSp} {Tm : TSm} {x : Str} {p pos : Pos} {e : Expr} {es : List Expr} {t : TA} {wa : WA} {sp : Sp}
theorem FnG.call {pins : List (Addr × Obj)} {σ : L2.St} {H : Hp} {s : Shared} {Q : VK} {us : List Value} {vs : List V} (G : FnG X.prog X.w X.K X.mg X.base k f fd ps sp) (hgd : X.A.guards = some []) (hr : Room k X.A) (hb : Binds X.K fd ps []) (I : L2.Inv X pins σ H s) (r : Vals vs us) (h : sp vs H Q E0) :
    wpAny (model X.prog X.w) X.A (call (.ref f) us) (EP X pins σ Q) X.xe s := by
  have hl : us.length = ps.length := r.length.symm.trans (G.1 _ _ _ _ h)
  have bt := hb s us I.kIn (by rw [List.append_nil]; exact hl)
  rw [List.append_nil] at bt
  refine wpAny_call (codeAny_mono (G.2 X.A X.stack s H ⟨us, []⟩ us vs Q E0 hgd hr I.env0 bt r h) fun res s2 h2 => ?_)
  match res, h2 with
  | .error er, h2 => exact passL pins σ H s er s2 I h2
  | .ok (.ret u), h2 => exact I.after h2
  | .ok .next, h2 => exact False.elim h2
  | .ok .brk, h2 => exact False.elim h2
  | .ok .cont, h2 => exact False.elim h2
theorem pe_callG (G : FnG X.prog X.w X.K X.mg X.base k f fd ps sp) (hgd : X.A.guards = some []) (hr : Room k X.A) (hg : Gl X x) (hm : X.mg x = some (.ref f)) (hk : PySem.W.keepIn X.K (.ref f) = true) (hb : Binds X.K fd ps []) (ha : PA X (e :: es) t)
    (hdb : (x == ("__debug__" : Str)) = false) (he : starEach (e :: es) X.env = (false, eval e X.env) :: starEach es X.env) (hpl : (backTo pos (starEach es X.env)).any (·.1) = false) : PE X (.Call (.Name x p) (e :: es) [] pos) (tCall sp [] E0 t) :=
  ⟨fun pins s σ H Q I h => wpAny_Call_Name_kw (ld_glob I hg hm (PySem.W.callWith_K (h₀ := X.base) I.ok.mod.kin hk (thn (ha.run pos pins s σ H _ I h) fun us s1 z => by
    obtain ⟨vs, H1, I1, r, q⟩ := z
    rw [List.append_nil] at q
    exact ⟨I1.kIn, G.call hgd hr hb I1 r q⟩) he hpl) hdb)⟩
theorem pe_callG0 (G : FnG X.prog X.w X.K X.mg X.base k f fd ps sp) (hgd : X.A.guards = some []) (hr : Room k X.A) (hg : Gl X x) (hm : X.mg x = some (.ref f)) (hk : PySem.W.keepIn X.K (.ref f) = true) (hb : Binds X.K fd ps [])
    (hdb : (x == ("__debug__" : Str)) = false) : PE X (.Call (.Name x p) [] [] pos) (tCall sp [] E0 tNil) :=
  ⟨fun pins s σ H Q I h => wpAny_Call_Name_kw (ld_glob I hg hm (PySem.W.callWith_K0 I.kIn hk (G.call (us := []) hgd hr hb I .nil h)) hdb)⟩
theorem ev_callG (G : FnG X.prog X.w X.K X.mg X.base k f fd ps (spV X.K n T)) (hgd : X.A.guards = some []) (hr : Room k X.A) (hm : X.mg x = some (.ref f)) (hk : PySem.W.keepIn X.K (.ref f) = true) (hb : Binds X.K fd ps []) (ha : EA X (e :: es) t wa)
    (hg : Gl X x := by rfl) (hdb : (x == ("__debug__" : Str)) = false := by decide) (he : starEach (e :: es) X.env = (false, eval e X.env) :: starEach es X.env := by rfl) (hpl : (backTo pos (starEach es X.env)).any (·.1) = false := by rfl) :
    EV X (.Call (.Name x p) (e :: es) [] pos) (tCall (spV X.K n T) [] E0 t) (wCall n T wa) := ⟨pe_callG G hgd hr hg hm hk hb ha.pa hdb he hpl, fun F ρ P σ S H Q hw R q =>
  ha.sd F ρ _ σ S H _ hw R fun ds ρ1 vs S1 H1 h1 R1 s1 d1 => by
    rw [List.append_nil]
    exact snd_spV R1 d1 h1.1 h1.2 fun d ρ' v S' H' hp R' sm hv => q d ρ' v S' H' hp R' (s1.trans sm) hv⟩
theorem ev_callG0 (G : FnG X.prog X.w X.K X.mg X.base k f fd ps (spV X.K 0 T)) (hgd : X.A.guards = some []) (hr : Room k X.A) (hm : X.mg x = some (.ref f)) (hk : PySem.W.keepIn X.K (.ref f) = true) (hb : Binds X.K fd ps [])
    (hg : Gl X x := by rfl) (hdb : (x == ("__debug__" : Str)) = false := by decide) :
    EV X (.Call (.Name x p) [] [] pos) (tCall (spV X.K 0 T) [] E0 tNil) (wCall0 T) := ⟨pe_callG0 G hgd hr hg hm hk hb hdb, fun F ρ P σ S H Q hw R q =>
  snd_spV (E := E0) (vs := []) R .nil rfl hw q⟩
end
/-- the sound half of a call whose first argument is a slot's own list -/
theorem snd_callM {K : PySem.W.Frag} (i n : Nat) {Tm : TSm} {t : TA} {wa : WA} (ha : SndA K t wa) : Snd K (tCall (spM K n Tm) [] E0 (tCons (tVar i) t)) (wCallM i n Tm wa) := fun F ρ P σ S H Q hw R q => by
  obtain ⟨m0, c0, e0, hw⟩ := hw.out
  obtain ⟨a, us0, z1, _⟩ := R.own i m0 c0 e0
  refine ⟨.ref a, z1, ha F ρ _ σ S H _ hw R fun ds ρ1 vs S1 H1 h1 R1 s1 d1 => ?_⟩
  obtain ⟨hn, h1⟩ := h1
  obtain ⟨m, cs, ei, hT⟩ := h1.out
  obtain ⟨a', us, h1, h2, h3, h4, h5⟩ := R1.own i m cs ei
  rw [z1] at h1
  cases h1
  rw [List.append_nil]
  refine ⟨S1, a, us, vs, cs, ds, _, rfl, R1.sub, R1.found, h2, h3, h4, d1, hn, hT, fun d cs' us' v S' H' hp sm sub fresh keep tk ga gs gd hv => ?_⟩
  have key : Rep K F S' H' σ (ρ1.set i (.own m cs')) := by
    have oth : ∀ (j : Nat) (n' : Bool) (fs : List PyData), j ≠ i → ρ1[j]? = some (.own n' fs) → σ[j]? ≠ some (some (.ref a)) := fun j n' fs hj q z => R1.apart j i n' m fs cs hj q ei (by rw [z, z1])
    have keepH : ∀ b, H1 b ≠ none → H' b ≠ none := fun b hb => by
      by_cases hba : b = a
      · rw [hba, ga]
        simp
      · cases hH : H1 b with
        | none => exact absurd hH hb
        | some o =>
          by_cases ht : Tb b
          · obtain ⟨ps, z⟩ := tk.tbl ht
            rw [z]
            simp
          · rw [keep b o hba ht hH]
            simp
    refine ⟨sub, R1.s0.trans sm, fun b h1 h2 => ?_, fun b o e hm' => ?_, R1.m0, fun b hm' => ⟨keepH b (R1.mt b hm').1, ?_⟩, tk, R1.tfree, by rw [List.length_set, R1.len], fun j d e => ?_, fun j n' fs e => ?_, fun j l n1 n2 fs gs' hne e e' => ?_, fun j w e => ?_, (R1.obj.heap sm (fun b x ex so => keep b x (fun z => lst_soft h2 x (z ▸ ex) so) (R1.tok.ns so ex) ex) (fun b x ex so hb => by
      cases hS : S' b with
      | none => rfl
      | some o =>
        have := fresh b hb (by rw [hS]; simp)
        rw [ex] at this
        cases this)).put' i (fun _ z => by cases z)⟩
    · cases hS : S1 b with
      | none => exact R1.h0 (fresh b hS h2)
      | some o => exact R1.fresh b h1 (by rw [hS]; simp)
    · by_cases hba : b = a
      · subst hba
        cases m with
        | true => exact absurd h5 hm'
        | false =>
          rw [show F.H0 b = none from h5] at e
          cases e
      · exact keep b o hba (fun z => hm' (R1.tfree b z)) (R1.keep b o e hm')
    · cases hS' : S' b with
      | none => rfl
      | some o => exact absurd (fresh b (R1.mt b hm').2 (by rw [hS']; simp)) (R1.mt b hm').1
    · rcases get_set e with ⟨rfl, e, _⟩ | ⟨hj, e⟩
      · cases e
      · obtain ⟨v', g1, g2⟩ := R1.at_ j d e
        exact ⟨v', g1, dp_mono sm d v' g2⟩
    · rcases get_set e with ⟨rfl, e, _⟩ | ⟨hj, e⟩
      · cases e
        exact ⟨a, us', z1, ga, gs, gd, h5⟩
      · obtain ⟨b, ws, g1, g2, g3, g4, g5⟩ := R1.own j n' fs e
        have hba : b ≠ a := fun z => oth j n' fs hj e (by rw [g1, z])
        refine ⟨b, ws, g1, keep b _ hba (R1.tok.nl g2) g2, ?_, dpAll_mono sm fs ws g4, g5⟩
        cases hS' : S' b with
        | none => rfl
        | some o =>
          have := fresh b g3 (by rw [hS']; simp)
          rw [g2] at this
          cases this
    · have back : ∀ {l : Nat} {n' : Bool} {fs : List PyData}, (ρ1.set i (.own m cs'))[l]? = some (.own n' fs) → ∃ n'' fs', ρ1[l]? = some (.own n'' fs') := fun {l n' fs} z => by
        rcases get_set z with ⟨rfl, _, _⟩ | ⟨_, z⟩
        · exact ⟨m, cs, ei⟩
        · exact ⟨n', fs, z⟩
      obtain ⟨q1, f1, y1⟩ := back e
      obtain ⟨q2, f2, y2⟩ := back e'
      exact R1.apart j l q1 q2 f1 f2 hne y1 y2
    · rcases get_set e with ⟨rfl, e, _⟩ | ⟨hj, e⟩
      · cases e
      · obtain ⟨v', g1, g2⟩ := R1.dic j w e
        exact ⟨v', g1, dic_mono sm g2⟩
  exact q d _ v S' H' hp key (s1.trans sm) hv
section
variable {X : Cx} {k n : Nat} {f : Addr} {fd : FuncData} {ps : List Str} {Tm : TSm} {x y : Str} {p pos py : Pos} {es : List Expr} {t : TA} {wa : WA}
theorem ev_callM (i : Nat) (G : FnOk X.prog X.w X.K X.mg X.base (L2.CX X.prog X.w) k f fd ps (spM X.K n Tm)) (hr : Room k X.A) (hm : X.mg x = some (.ref f)) (hk : PySem.W.keepIn X.K (.ref f) = true) (hb : Binds X.K fd ps []) (ha : EA X es t wa)
    (hN : X.N[i]? = some y := by rfl) (hv : Vis X.env.scope y := by first | exact Or.inl rfl | exact Or.inr (Or.inl rfl) | exact Or.inr (Or.inr rfl)) (hd : (y == ("__debug__" : Str)) = false := by decide) (hcd : (y == ("__classdict__" : Str)) = false := by decide)
    (hg : Gl X x := by rfl) (hdb : (x == ("__debug__" : Str)) = false := by decide) (he : starEach (.Name y py :: es) X.env = (false, eval (.Name y py) X.env) :: starEach es X.env := by rfl) (hpl : (backTo pos (starEach es X.env)).any (·.1) = false := by rfl) :
    EV X (.Call (.Name x p) (.Name y py :: es) [] pos) (tCall (spM X.K n Tm) [] E0 (tCons (tVar i) t)) (wCallM i n Tm wa) :=
  ⟨pe_call G hr hg hm hk hb .nil passL (pa_cons (pe_var hN hv hd hcd) ha.pa he) hdb he hpl, snd_callM i n ha.sd⟩
theorem ev_callMG (i : Nat) (G : FnG X.prog X.w X.K X.mg X.base k f fd ps (spM X.K n Tm)) (hgd : X.A.guards = some []) (hr : Room k X.A) (hm : X.mg x = some (.ref f)) (hk : PySem.W.keepIn X.K (.ref f) = true) (hb : Binds X.K fd ps []) (ha : EA X es t wa)
    (hN : X.N[i]? = some y := by rfl) (hv : Vis X.env.scope y := by first | exact Or.inl rfl | exact Or.inr (Or.inl rfl) | exact Or.inr (Or.inr rfl)) (hd : (y == ("__debug__" : Str)) = false := by decide) (hcd : (y == ("__classdict__" : Str)) = false := by decide)
    (hg : Gl X x := by rfl) (hdb : (x == ("__debug__" : Str)) = false := by decide) (he : starEach (.Name y py :: es) X.env = (false, eval (.Name y py) X.env) :: starEach es X.env := by rfl) (hpl : (backTo pos (starEach es X.env)).any (·.1) = false := by rfl) :
    EV X (.Call (.Name x p) (.Name y py :: es) [] pos) (tCall (spM X.K n Tm) [] E0 (tCons (tVar i) t)) (wCallM i n Tm wa) :=
  ⟨pe_callG G hgd hr hg hm hk hb (pa_cons (pe_var hN hv hd hcd) ha.pa he) hdb he hpl, snd_callM i n ha.sd⟩
end

/-! ### a def that hands back a new list -/
abbrev TSn := List PyData → (List PyData → Prop) → Prop
def spN (K : PySem.W.Frag) (n : Nat) (T : TSn) : Sp := fun vs H Q _ => ∃ S ds P, Same S H ∧ Found S H ∧ DqAll K S vs ds ∧ ds.length = n ∧ T ds P ∧
  ∀ es p us S' H', P es → Same S S' → Same S' H' → (∀ b, S b = none → S' b ≠ none → H b = none) → Left H H' → H p = none → S' p = none → H' p = some (.lst us) → DqAll K S' us es → Q (.ref p) H'
theorem spN_len {K : PySem.W.Frag} {n : Nat} {T : TSn} (vs : List V) (H : Hp) (Q : VK) (E : XK) (h : spN K n T vs H Q E) : vs.length = n := by
  obtain ⟨S, ds, P, _, _, hd, hl, _⟩ := h
  rw [hd.len, hl]
section
variable {P : Program} {w : World} {K : PySem.W.Frag} {mg : Str → Option Value} {base : Heap}
theorem fn_new {x qual : Str} {st : Stmt} {f : Addr} {fd : FuncData} {N ps : List Str} {k n : Nat} {T : TSn} (Fn : Fun K x qual st f fd) (Sc : FnScope N ps (defScope st)) (hn : ps.length = n)
    (hbody : ∀ (cdv : Value) (A : Around) (outer : List Env) (s : Shared) (H : Hp) (E : XK), Room k (A.deeper (envOfC qual (defScope st) s.heap.objs.size f cdv)) →
      ∃ t wt, SVs (cxOf (L2.CX P w) P w K mg base N qual (defScope st) f cdv A outer s H E).nox (defBody st) t wt ∧ ∀ ds P', ds.length = n → T ds P' → wt (startE N ds) { nx := fun _ => False, rt := fun _ _ => False, rn := fun es _ => P' es }) :
    FnOk P w K mg base (L2.CX P w) (k + 1) f fd ps (spN K n T) := by
  refine Fn.okX Sc (fun vs H Q E h => (spN_len vs H Q E h).trans hn.symm) fun cdv A outer s H vs Q E hr hsp => ?_
  obtain ⟨t, wt, hb, hw⟩ := hbody cdv A outer s H E hr
  refine ⟨t, hb.ps.nox, ?_⟩
  obtain ⟨S, ds, P', sm, fo, hd, hl, hT, q⟩ := hsp
  have R := rep_start N sm fo hd
  refine hb.sd _ _ _ _ S H _ (hw ds P' hl hT) R ⟨fun _ _ _ _ h _ _ => h.elim, fun _ _ _ _ _ _ h _ _ _ => h.elim, fun _ _ _ _ h _ _ => h.elim, fun _ _ _ _ h _ _ => h.elim, fun es ρ' p us σ' S' H' h R' s' B' hd' => ?_⟩
  exact q es p us S' H' h s' R'.sub (fun b h1 h2 => R'.fresh b h1 h2) ⟨fun b o nt e => R'.keep b o e nt, R'.tok⟩ B'.h0 B'.s B'.at_ hd'
end
section
variable {X : Cx} {k n : Nat} {f : Addr} {fd : FuncData} {ps : List Str} {T : TSn} {x : Str} {p pos : Pos} {e : Expr} {es : List Expr} {t : TA} {wa : WA}
theorem en_call (G : FnOk X.prog X.w X.K X.mg X.base (L2.CX X.prog X.w) k f fd ps (spN X.K n T)) (hr : Room k X.A) (hm : X.mg x = some (.ref f)) (hk : PySem.W.keepIn X.K (.ref f) = true) (hb : Binds X.K fd ps []) (ha : EA X (e :: es) t wa)
    (hg : Gl X x := by rfl) (hdb : (x == ("__debug__" : Str)) = false := by decide) (he : starEach (e :: es) X.env = (false, eval e X.env) :: starEach es X.env := by rfl) (hpl : (backTo pos (starEach es X.env)).any (·.1) = false := by rfl) :
    EN X (.Call (.Name x p) (e :: es) [] pos) (tCall (spN X.K n T) [] E0 t) (wCallN n T wa) := ⟨pe_call G hr hg hm hk hb .nil passL ha.pa hdb he hpl, fun F ρ P σ S H Q hw R q =>
  ha.sd F ρ _ σ S H _ hw R fun ds ρ1 vs S1 H1 h1 R1 s1 d1 => by
    rw [List.append_nil]
    refine ⟨S1, ds, _, R1.sub, R1.found, d1, h1.1, h1.2, fun fs p us S' H' hp sm sub fresh keep n ns hat hd => ?_⟩
    have R2 : Rep X.K F S' H' σ ρ1 := by
      refine ⟨sub, R1.s0.trans sm, fun b h1 h2 => ?_, fun b o e hm => keep.at_ b o (fun z => hm (R1.tfree b z)) (R1.keep b o e hm), R1.m0, fun b hm => ⟨fun z => (R1.mt b hm).1 (keep.none z), ?_⟩, keep.tok, R1.tfree, R1.len, fun i d e => ?_, fun i m cs e => ?_, R1.apart, fun i m e => (R1.dic i m e).imp fun v h => ⟨h.1, dic_mono sm h.2⟩, R1.obj.call R1.tok sm fresh keep⟩
      · cases hS : S1 b with
        | none => exact R1.h0 (fresh b hS h2)
        | some o => exact R1.fresh b h1 (by rw [hS]; simp)
      · cases hS' : S' b with
        | none => rfl
        | some o => exact absurd (fresh b (R1.mt b hm).2 (by rw [hS']; simp)) (R1.mt b hm).1
      · obtain ⟨v, h1, h2⟩ := R1.at_ i d e
        exact ⟨v, h1, dp_mono sm d v h2⟩
      · obtain ⟨a, us, h1, h2, h3, h4, h5⟩ := R1.own i m cs e
        refine ⟨a, us, h1, keep.at_ a _ (R1.tok.nl h2) h2, ?_, dpAll_mono sm cs us h4, h5⟩
        cases hS' : S' a with
        | none => rfl
        | some o =>
          have := fresh a h3 (by rw [hS']; simp)
          rw [h2] at this
          cases this
    refine q fs ρ1 p us S' H' hp R2 (s1.trans sm) ⟨hat, ns, R1.h0 n, fun i m cs e z => ?_⟩ hd
    obtain ⟨a, ws, g1, g2, _⟩ := R1.own i m cs e
    rw [g1] at z
    cases z
    rw [n] at g2
    cases g2⟩
end

end Tr
set_option Elab.async false
set_option linter.all false
set_option maxRecDepth 100000
set_option maxHeartbeats 2000000
/-! Tr5: items, slices, built-ins, methods of lists, comprehensions -/
namespace Tr
open PySem PySem.Spec PyProof.Rows L2
variable [Tabbed]

theorem ixN_at {K : PySem.W.Frag} {S : Hp} {vs : List V} {ds : List PyData} {i : Int} {d : PyData} (h : DqAll K S vs ds) (e : atI ds i = some d) : ∃ v, atI vs i = some v ∧ Dq K S v d := by
  unfold atI at e ⊢
  rw [h.len]
  cases hj : ixN ds.length i with
  | none => rw [hj] at e; cases e
  | some j =>
    rw [hj] at e
    obtain ⟨v, h1, h2⟩ := h.at (i := j) e
    exact ⟨v, h1, h2⟩
theorem at0 {α : Type} {x : α} {xs : List α} : atI (x :: xs) 0 = some x := atI_nat (j := 0) rfl
theorem at1 {α : Type} {x y : α} {xs : List α} : atI (x :: y :: xs) 1 = some y := atI_nat (j := 1) rfl
theorem at2 {α : Type} {x y z : α} {xs : List α} : atI (x :: y :: z :: xs) 2 = some z := atI_nat (j := 2) rfl
theorem at3 {α : Type} {x y z u : α} {xs : List α} : atI (x :: y :: z :: u :: xs) 3 = some u := atI_nat (j := 3) rfl
/-- e[i] -/
def gIx : PyData → PyData → (PyData → Prop) → Prop := fun x y P => match x, y with
  | .list ds, .int i => someOf (atI ds i) P
  | .tuple ds, .int i => someOf (atI ds i) P
  | .str s, .int i => s.length ≤ sizeLine ∧ someOf (atI s.cps.toList i) fun c => P (.str ⟨#[c]⟩)
  | _, _ => False
theorem lift_ix {K : PySem.W.Frag} : Lift2 K (rIx K) gIx := fun S H x y d e P Q sm dx dy hg q => by
  unfold gIx at hg
  split at hg
  · obtain ⟨z, h1, h2⟩ := hg.out
    cases dx with
    | lst sq ha =>
      cases dy
      obtain ⟨v, g1, g2⟩ := ixN_at ha h1
      exact .inl ⟨_, _, _, v, rfl, rfl, same_sqL sm sq, g1, q z v h2 g2⟩
  · obtain ⟨z, h1, h2⟩ := hg.out
    cases dx with
    | tup sq ha =>
      cases dy
      obtain ⟨v, g1, g2⟩ := ixN_at ha h1
      exact .inr (.inl ⟨_, _, _, v, rfl, rfl, same_sqT sm sq, g1, q z v h2 g2⟩)
  · obtain ⟨hz, hg⟩ := hg
    obtain ⟨c, h1, h2⟩ := hg.out
    cases dx
    cases dy
    exact .inr (.inr ⟨_, _, c, rfl, rfl, hz, h1, q _ _ h2 (.str _)⟩)
  · exact hg.elim
def wIxO (i : Nat) (wb : W1) : W1 := fun ρ P => ownAt ρ i fun _ _ => wb ρ fun y ρ1 => ownAt ρ1 i fun _ ds => asInt y fun j => someOf (atI ds j) fun z => P z ρ1
def wFn (g : List PyData → (PyData → Prop) → Prop) (w : WA) : W1 := fun ρ P => w ρ fun ds ρ1 => g ds fun z => P z ρ1
def wFn1 (g : PyData → (PyData → Prop) → Prop) (w : W1) : W1 := fun ρ P => w ρ fun d ρ1 => g d fun z => P z ρ1
def wFnN (g : List PyData → (List PyData → Prop) → Prop) (w : WA) : WA := fun ρ P => w ρ fun ds ρ1 => g ds fun z => P z ρ1
def gTup1 : PyData → (List PyData → Prop) → Prop := fun d P => match d with
  | .list es => P es
  | .tuple es => P es
  | _ => False
def wTuple1 (w : W1) : W1 := fun ρ P => w ρ fun d ρ1 => gTup1 d fun z => P (.tuple z) ρ1
def wAppend (i : Nat) (we : W1) : WS := fun ρ N => ownAt ρ i fun _ _ => we ρ fun d ρ1 => ownAt ρ1 i fun m ds => ds.length < sizeLine ∧ N.nx (ρ1.set i (.own m (ds ++ [d])))
def wPopAt (i : Nat) (we : W1) : W1 := fun ρ P => ownAt ρ i fun _ _ => we ρ fun d ρ1 => ownAt ρ1 i fun m ds => asNat d fun k => k < 2 ^ 62 ∧ someOf ds[k]? fun z => P z (ρ1.set i (.own m (ds.eraseIdx k)))
def wSetO (i : Nat) (we w1 : W1) : WS := fun ρ N => we ρ fun d ρ1 => ownAt ρ1 i fun _ _ => w1 ρ1 fun y ρ2 => ownAt ρ2 i fun m ds => asNat y fun k => k < ds.length ∧ N.nx (ρ2.set i (.own m (ds.set k d)))
section
variable {X : Cx} {a b e : Expr} {ta tb te : TE} {wa wb we : W1} {pos : Pos}
theorem ev_ix (ha : EV X a ta wa) (hb : EV X b tb wb) (hs : PlainIx b := by intro _ _; rfl) : EV X (.Subscript a b pos) (tOp (rIx X.K) ta tb) (wOp gIx wa wb) := ⟨pe_ix ix_seq ha.pe hb.pe hs, snd_op lift_ix ha.sd hb.sd⟩
/-- x[i] of a list that the slot holds alone -/
theorem ev_ixO (i : Nat) {x : Str} {px : Pos} (hb : EV X b tb wb) (hs : PlainIx b := by intro _ _; rfl) (hN : X.N[i]? = some x := by rfl) (hv : Vis X.env.scope x := by first | exact Or.inl rfl | exact Or.inr (Or.inl rfl) | exact Or.inr (Or.inr rfl)) (hd : (x == ("__debug__" : Str)) = false := by decide)
    (hcd : (x == ("__classdict__" : Str)) = false := by decide) :
    EV X (.Subscript (.Name x px) b pos) (tOp (rIx X.K) (tVar i) tb) (wIxO i wb) := ⟨pe_ix ix_seq (pe_var hN hv hd hcd) hb.pe hs, fun F ρ P σ S H Q hw R q => by
  obtain ⟨m0, d0, e0, hw⟩ := hw.out
  obtain ⟨a0, v0, z0, _⟩ := R.own i m0 d0 e0
  refine ⟨.ref a0, z0, hb.sd F ρ _ σ S H _ hw R fun y ρ1 vy S1 H1 hp R1 s1 d1 => ?_⟩
  obtain ⟨m, ds, e1, hp⟩ := hp.out
  obtain ⟨j, rfl, hp1⟩ := hp.out
  obtain ⟨z, hz, hp2⟩ := hp1.out
  cases d1
  obtain ⟨a1, vs, z1, z2, z3, z4, z5⟩ := R1.own i m ds e1
  rw [z0] at z1
  cases z1
  obtain ⟨v, g1, g2⟩ := ixN_at z4 hz
  exact .inl ⟨_, _, _, v, rfl, rfl, SqL.of z2, g1, q z ρ1 v S1 H1 hp2 R1 s1 g2⟩⟩
/-! ### a call of a built-in -/
/-- r on values is served by g on trees, the heap stays -/
def LiftC (K : PySem.W.Frag) (r : List V → Hp → VK → Prop) (g : List PyData → (PyData → Prop) → Prop) : Prop :=
  ∀ (S H : Hp) (vs : List V) (ds : List PyData) (P : PyData → Prop) (Q : VK), Same S H → DqAll K S vs ds → g ds P → (∀ z v, P z → Dq K S v z → Q v H) → r vs H Q
/-- .. looked at at once -/
def LiftCR (K : PySem.W.Frag) (r : List V → Hp → VK → Prop) (g : PyData → (PyData → Prop) → Prop) : Prop :=
  ∀ (H : Hp) (v : V) (d : PyData) (P : PyData → Prop) (Q : VK), Dq K H v d → g d P → (∀ z u, P z → (∀ S, Dq K S u z) → Q u H) → r [v] H Q
def LiftCN (K : PySem.W.Frag) (r : List V → Hp → VK → Prop) (g : List PyData → (List PyData → Prop) → Prop) : Prop :=
  ∀ (S H : Hp) (vs : List V) (ds : List PyData) (P : List PyData → Prop) (Q : VK), Same S H → DqAll K S vs ds → g ds P → (∀ p es us, H p = none → P es → DqAll K S us es → Q (.ref p) (upd H p (.lst us))) → r vs H Q
theorem snd_CB {K : PySem.W.Frag} {r : List V → Hp → VK → Prop} {g : List PyData → (PyData → Prop) → Prop} {t : TA} {w : WA} (L : LiftC K r g) (h : SndA K t w) : Snd K (tCB r t) (wFn g w) := fun F ρ P σ S H Q hw R q =>
  h F ρ _ σ S H _ hw R fun ds ρ1 vs S1 H1 h1 R1 s1 d1 => L S1 H1 vs ds _ Q R1.sub d1 h1 fun z v hz dz => q z ρ1 v S1 H1 hz R1 s1 dz
theorem snd_CBR {K : PySem.W.Frag} {r : List V → Hp → VK → Prop} {g : PyData → (PyData → Prop) → Prop} {t : TE} {w : W1} (L : LiftCR K r g) (h : SndR K t w) : Snd K (tCB r (tCons t tNil)) (wFn1 g w) := fun F ρ P σ S H Q hw R q =>
  h F ρ _ σ S H _ hw R fun d ρ1 v S1 H1 h1 R1 s1 d1 => L H1 v d _ Q d1 h1 fun z u hz dz => q z ρ1 u S1 H1 hz R1 s1 (dz S1)
theorem snd_CBN {K : PySem.W.Frag} {r : List V → Hp → VK → Prop} {g : List PyData → (List PyData → Prop) → Prop} {t : TA} {w : WA} (L : LiftCN K r g) (h : SndA K t w) : SndN K (tCB r t) (wFnN g w) := fun F ρ P σ S H Q hw R q =>
  h F ρ _ σ S H _ hw R fun ds ρ1 vs S1 H1 h1 R1 s1 d1 => L S1 H1 vs ds _ Q R1.sub d1 h1 fun p es us n hz dz => q es ρ1 p us S1 _ hz (R1.lay n _) s1 (R1.bare n) dz
variable {x : Str} {p : Pos} {es : List Expr} {t : TA} {wA : WA} {id T : String}
theorem ev_callB {r : List V → Hp → VK → Prop} {g : List PyData → (PyData → Prop) → Prop} (hc : CallR X (.builtin id) r) (L : LiftC X.K r g) (hm : X.mg x = none) (hv : bootBuiltins x = some (.builtin id)) (ha : EA X (e :: es) t wA) (hg : Gl X x := by rfl) (hn : x ≠ "__name__" := by decide) (hdb : (x == ("__debug__" : Str)) = false := by decide)
    (he : starEach (e :: es) X.env = (false, eval e X.env) :: starEach es X.env := by rfl) (hpl : (backTo pos (starEach es X.env)).any (·.1) = false := by rfl) : EV X (.Call (.Name x p) (e :: es) [] pos) (tCB r t) (wFn g wA) := ⟨pe_callB hc hg hm hv ha.pa hn hdb he hpl, snd_CB L ha.sd⟩
theorem ev_callTy {r : List V → Hp → VK → Prop} {g : List PyData → (PyData → Prop) → Prop} (hc : CallR X (.type T) r) (L : LiftC X.K r g) (hm : X.mg x = none) (hv : bootBuiltins x = some (.type T)) (ha : EA X (e :: es) t wA) (hg : Gl X x := by rfl) (hn : x ≠ "__name__" := by decide) (hdb : (x == ("__debug__" : Str)) = false := by decide)
    (he : starEach (e :: es) X.env = (false, eval e X.env) :: starEach es X.env := by rfl) (hpl : (backTo pos (starEach es X.env)).any (·.1) = false := by rfl) : EV X (.Call (.Name x p) (e :: es) [] pos) (tCB r t) (wFn g wA) := ⟨pe_callTy hc hg hm hv ha.pa hn hdb he hpl, snd_CB L ha.sd⟩
theorem en_callTy {r : List V → Hp → VK → Prop} {g : List PyData → (List PyData → Prop) → Prop} (hc : CallR X (.type T) r) (L : LiftCN X.K r g) (hm : X.mg x = none) (hv : bootBuiltins x = some (.type T)) (ha : EA X (e :: es) t wA) (hg : Gl X x := by rfl) (hn : x ≠ "__name__" := by decide) (hdb : (x == ("__debug__" : Str)) = false := by decide)
    (he : starEach (e :: es) X.env = (false, eval e X.env) :: starEach es X.env := by rfl) (hpl : (backTo pos (starEach es X.env)).any (·.1) = false := by rfl) : EN X (.Call (.Name x p) (e :: es) [] pos) (tCB r t) (wFnN g wA) := ⟨pe_callTy hc hg hm hv ha.pa hn hdb he hpl, snd_CBN L ha.sd⟩
theorem ev_callBR {r : List V → Hp → VK → Prop} {g : PyData → (PyData → Prop) → Prop} (hc : CallR X (.builtin id) r) (L : LiftCR X.K r g) (hm : X.mg x = none) (hv : bootBuiltins x = some (.builtin id)) (ha : ER X e te we) (hg : Gl X x := by rfl) (hn : x ≠ "__name__" := by decide) (hdb : (x == ("__debug__" : Str)) = false := by decide)
    (he : starEach [e] X.env = (false, eval e X.env) :: starEach [] X.env := by rfl) (hpl : (backTo pos (starEach [] X.env)).any (·.1) = false := by rfl) : EV X (.Call (.Name x p) [e] [] pos) (tCB r (tCons te tNil)) (wFn1 g we) := ⟨pe_callB hc hg hm hv (pa_cons ha.pe pa_nil he) hn hdb he hpl, snd_CBR L ha.sd⟩
/-- len -/
def gLen : PyData → (PyData → Prop) → Prop := fun d P => match d with
  | .list ds => P (.int ds.length)
  | .tuple ds => P (.int ds.length)
  | .str s => s.length ≤ sizeLine ∧ P (.int s.length)
  | _ => False
abbrev rLen (K : PySem.W.Frag) : List V → Hp → VK → Prop := fun xs H Q => ∃ x n, xs = [x] ∧ LenV K x H n ∧ Q (.int n) H
theorem lift_len {K : PySem.W.Frag} : LiftCR K (rLen K) gLen := fun H v d P Q dv hg q => by
  unfold gLen at hg
  split at hg
  · cases dv with
    | lst sq ha => exact ⟨_, _, rfl, .inl ⟨_, sq.l, rfl⟩, by rw [ha.len]; exact q _ _ hg fun _ => .int _⟩
  · cases dv with
    | tup sq ha => exact ⟨_, _, rfl, .inr ⟨_, sq, rfl⟩, by rw [ha.len]; exact q _ _ hg fun _ => .int _⟩
  · cases dv
    exact ⟨_, _, rfl, ⟨hg.1, rfl⟩, q _ _ hg.2 fun _ => .int _⟩
  · exact hg.elim
theorem ev_len {p : Pos} (hm : X.mg "len" = none) (ha : ER X e te we) (hg : Gl X "len" := by rfl) (he : starEach [e] X.env = (false, eval e X.env) :: starEach [] X.env := by rfl) (hpl : (backTo pos (starEach [] X.env)).any (·.1) = false := by rfl) :
    EV X (.Call (.Name "len" p) [e] [] pos) (tCB (rLen X.K) (tCons te tNil)) (wFn1 gLen we) := ev_callBR call_len lift_len hm PySem.boot_len ha hg (by decide) (by decide) he hpl
/-- int(..) -/
def gInt : List PyData → (PyData → Prop) → Prop := fun ds P => match ds with
  | [.int i] => P (.int i)
  | [.bool k] => P (.int (if k then 1 else 0))
  | _ => False
abbrev rInt : List V → Hp → VK → Prop := fun xs H Q => (∃ i, xs = [.int i] ∧ Q (.int i) H) ∨ ∃ k, xs = [.bl k] ∧ Q (.int (if k then 1 else 0)) H
theorem lift_int {K : PySem.W.Frag} : LiftC K rInt gInt := fun S H vs ds P Q sm d hg q => by
  unfold gInt at hg
  split at hg
  · cases d with
    | cons d1 d2 =>
      cases d1
      cases d2
      exact .inl ⟨_, rfl, q _ _ hg (.int _)⟩
  · cases d with
    | cons d1 d2 =>
      cases d1
      cases d2
      exact .inr ⟨_, rfl, q _ _ hg (.int _)⟩
  · exact hg.elim
theorem ev_int1 {p : Pos} (hm : X.mg "int" = none) (ha : EA X [e] t wA) (hg : Gl X "int" := by rfl) (he : starEach [e] X.env = (false, eval e X.env) :: starEach [] X.env := by rfl) (hpl : (backTo pos (starEach [] X.env)).any (·.1) = false := by rfl) :
    EV X (.Call (.Name "int" p) [e] [] pos) (tCB rInt t) (wFn gInt wA) := ev_callTy call_int1 lift_int hm (by decide +kernel) ha hg (by decide) (by decide) he hpl
/-- abs -/
def gAbs : List PyData → (PyData → Prop) → Prop := fun ds P => match ds with
  | [.int i] => P (.int (if i < 0 then -i else i))
  | _ => False
abbrev rAbs : List V → Hp → VK → Prop := fun xs H Q => ∃ i, xs = [.int i] ∧ Q (.int (if i < 0 then -i else i)) H
theorem lift_abs {K : PySem.W.Frag} : LiftC K rAbs gAbs := fun S H vs ds P Q sm d hg q => by
  unfold gAbs at hg
  split at hg
  · cases d with
    | cons d1 d2 =>
      cases d1
      cases d2
      exact ⟨_, rfl, q _ _ hg (.int _)⟩
  · exact hg.elim
theorem ev_abs {p : Pos} (hm : X.mg "abs" = none) (ha : EA X [e] t wA) (hg : Gl X "abs" := by rfl) (he : starEach [e] X.env = (false, eval e X.env) :: starEach [] X.env := by rfl) (hpl : (backTo pos (starEach [] X.env)).any (·.1) = false := by rfl) :
    EV X (.Call (.Name "abs" p) [e] [] pos) (tCB rAbs t) (wFn gAbs wA) := ev_callB call_abs lift_abs hm (by decide +kernel) ha hg (by decide) (by decide) he hpl
/-- min(a, b) -/
def gMin2 : List PyData → (PyData → Prop) → Prop := fun ds P => match ds with
  | [.int i, .int j] => P (.int (if j < i then j else i))
  | _ => False
abbrev rMin2 : List V → Hp → VK → Prop := fun xs H Q => ∃ i j, xs = [.int i, .int j] ∧ Q (.int (if j < i then j else i)) H
theorem lift_min2 {K : PySem.W.Frag} : LiftC K rMin2 gMin2 := fun S H vs ds P Q sm d hg q => by
  unfold gMin2 at hg
  split at hg
  · cases d with
    | cons d1 d2 =>
      cases d1
      cases d2 with
      | cons d3 d4 =>
        cases d3
        cases d4
        exact ⟨_, _, rfl, q _ _ hg (.int _)⟩
  · exact hg.elim
theorem ev_min2 {p : Pos} (hc : X.calm = true) (hm : X.mg "min" = none) (ha : EA X [e, a] t wA) (hg : Gl X "min" := by rfl) (he : starEach [e, a] X.env = (false, eval e X.env) :: starEach [a] X.env := by rfl) (hpl : (backTo pos (starEach [a] X.env)).any (·.1) = false := by rfl) :
    EV X (.Call (.Name "min" p) [e, a] [] pos) (tCB rMin2 t) (wFn gMin2 wA) := ev_callB (call_min2 hc) lift_min2 hm (by decide +kernel) ha hg (by decide) (by decide) he hpl
/-- list(..) of a list or tuple -/
def gList : List PyData → (List PyData → Prop) → Prop := fun ds P => match ds with
  | [.list es] => P es
  | [.tuple es] => P es
  | _ => False
abbrev rList (K : PySem.W.Frag) : List V → Hp → VK → Prop := fun xs H Q => ∃ p ys, xs = [.ref p] ∧ (SqL K H p ys ∨ SqT K H p ys) ∧ ∀ l, H l = none → Q (.ref l) (upd H l (.lst ys))
theorem lift_list {K : PySem.W.Frag} : LiftCN K (rList K) gList := fun S H vs ds P Q sm d hg q => by
  unfold gList at hg
  split at hg
  · cases d with
    | cons d1 d2 =>
      cases d2
      cases d1 with
      | lst sq ha => exact ⟨_, _, rfl, .inl (same_sqL sm sq), fun l n => q l _ _ n hg ha⟩
  · cases d with
    | cons d1 d2 =>
      cases d2
      cases d1 with
      | tup sq ha => exact ⟨_, _, rfl, .inr (same_sqT sm sq), fun l n => q l _ _ n hg ha⟩
  · exact hg.elim
theorem en_list {p : Pos} (hm : X.mg "list" = none) (ha : EA X [e] t wA) (hg : Gl X "list" := by rfl) (he : starEach [e] X.env = (false, eval e X.env) :: starEach [] X.env := by rfl) (hpl : (backTo pos (starEach [] X.env)).any (·.1) = false := by rfl) :
    EN X (.Call (.Name "list" p) [e] [] pos) (tCB (rList X.K) t) (wFnN gList wA) := en_callTy call_list_of lift_list hm (by decide +kernel) ha hg (by decide) (by decide) he hpl
/-- tuple(..) of a list or tuple; the argument may be a list that a slot holds alone -/
abbrev rTup1 (K : PySem.W.Frag) : List V → Hp → VK → Prop := fun xs H Q => ∃ p ys, xs = [.ref p] ∧ ((SqL K H p ys ∧ ∀ l, H l = none → Q (.ref l) (upd H l (.tup ys))) ∨ (SqT K H p ys ∧ Q (.ref p) H))
theorem ev_tuple1 {p : Pos} (hm : X.mg "tuple" = none) (ha : EV X e te we) (hg : Gl X "tuple" := by rfl) (he : starEach [e] X.env = (false, eval e X.env) :: starEach [] X.env := by rfl) (hpl : (backTo pos (starEach [] X.env)).any (·.1) = false := by rfl) :
    EV X (.Call (.Name "tuple" p) [e] [] pos) (tCB (rTup1 X.K) (tCons te tNil)) (wTuple1 we) := ⟨pe_callTy call_tuple_of hg hm (by decide +kernel) (pa_cons ha.pe pa_nil he) (by decide) (by decide) he hpl, fun F ρ P σ S H Q hw R q =>
  ha.sd F ρ _ σ S H _ hw R fun d ρ1 v S1 H1 h1 R1 s1 d1 => by
    unfold gTup1 at h1
    split at h1
    · cases d1 with
      | lst sq hd => exact ⟨_, _, rfl, .inl ⟨same_sqL R1.sub sq, fun l n => q _ ρ1 _ _ _ h1 (R1.new n (.tup _)) (s1.trans (same_new (same_none R1.sub n))) (.tup (SqT.of upd_same) (dpAll_mono (same_new (same_none R1.sub n)) _ _ hd))⟩⟩
    · cases d1 with
      | tup sq hd => exact ⟨_, _, rfl, .inr ⟨same_sqT R1.sub sq, q _ ρ1 _ S1 H1 h1 R1 s1 (.tup sq hd)⟩⟩
    · exact h1.elim⟩
/-- all(..) of a list of truths -/
def boolsOf : List PyData → Option (List Bool)
  | [] => some []
  | .bool b :: r => (boolsOf r).map (b :: ·)
  | _ => none
theorem bools_dp {K : PySem.W.Frag} {S : Hp} : ∀ {ds : List PyData} {vs : List V} {bs : List Bool}, DqAll K S vs ds → boolsOf ds = some bs → vs = bs.map V.bl
  | [], _, _, h, e => by cases h; cases e; rfl
  | d :: r, _, bs, h, e => by
    cases h with
    | cons h1 h2 =>
      cases h1 with
      | bl b =>
        cases e2 : boolsOf r with
        | none => rw [show boolsOf (.bool b :: r) = (boolsOf r).map (b :: ·) from rfl, e2] at e; cases e
        | some cs =>
          rw [show boolsOf (.bool b :: r) = (boolsOf r).map (b :: ·) from rfl, e2] at e
          cases e
          rw [bools_dp h2 e2]
          rfl
      | _ => cases e
def gAll : PyData → (PyData → Prop) → Prop := fun d P => match d with
  | .list ds => ∃ bs, boolsOf ds = some bs ∧ P (.bool (bs.all fun b => b))
  | _ => False
theorem lift_all {K : PySem.W.Frag} : LiftCR K (rAll K) gAll := fun H v d P Q dv hg q => by
  unfold gAll at hg
  split at hg
  · obtain ⟨bs, e, hp⟩ := hg
    cases dv with
    | lst sq ha =>
      rw [bools_dp ha e] at sq
      exact ⟨_, bs, rfl, sq.l, q _ _ (show P (.bool (bs.all _root_.id)) from hp) fun _ => .bl _⟩
  · exact hg.elim
theorem ev_all (hc : CallR X (.builtin "all") (rAll X.K)) {p : Pos} (hm : X.mg "all" = none) (ha : ER X e te we) (hg : Gl X "all" := by rfl) (he : starEach [e] X.env = (false, eval e X.env) :: starEach [] X.env := by rfl) (hpl : (backTo pos (starEach [] X.env)).any (·.1) = false := by rfl) :
    EV X (.Call (.Name "all" p) [e] [] pos) (tCB (rAll X.K) (tCons te tNil)) (wFn1 gAll we) := ev_callBR hc lift_all hm (by decide +kernel) ha hg (by decide) (by decide) he hpl

/-! ### a slot's own list, changed -/
/-- x.append(e) -/
theorem sv_append (i : Nat) {x : Str} {px pa pc pos : Pos} (he : EV X e te we) (hN : X.N[i]? = some x := by rfl) (hv : Vis X.env.scope x := by first | exact Or.inl rfl | exact Or.inr (Or.inl rfl) | exact Or.inr (Or.inr rfl)) (hd : (x == ("__debug__" : Str)) = false := by decide) (hcd : (x == ("__classdict__" : Str)) = false := by decide)
    (hbase : attributeBase (.Name x px) "append" X.env (eval (.Name x px) X.env) = eval (.Name x px) X.env := by rfl)
    (hfew : ((backTo pc (starEach [e] X.env)).all (fun x => !x.1) && (backToKw pc (keywordEach [] X.env)).all (fun x => x.1.isSome)
      && decide ([e].length + ([] : List Keyword).length + (if ([] : List Keyword).isEmpty then 0 else 1) < 30)) = true := by rfl)
    (hline : (pa.endLine == pc.line) = true := by rfl) (hs : starEach [e] X.env = (false, eval e X.env) :: starEach [] X.env := by rfl) (hpl : (backTo pc (starEach [] X.env)).any (·.1) = false := by rfl)
    (hsw : swapsWith (.Call (.Attribute (.Name x px) "append" pa) [e] [] pc) none pos.line X.env = pure false := by rfl) :
    SV X (.Expr (.Call (.Attribute (.Name x px) "append" pa) [e] [] pc) pos) (tDrop (tBM X.K "list" rAppend (tVar i) (tCons te tNil))) (wAppend i we) :=
  ⟨ps_expr (pe_bm PySem.F.plainAttrs_list PySem.F.slot_list_append PySem.F.type_list_append mt_append (pe_var hN hv hd hcd) (pa_cons he.pe pa_nil hs) hbase hfew hline hs hpl) hsw, fun F ρ N σ S H D hw R T => by
  obtain ⟨m0, d0, e0, hw⟩ := hw.out
  obtain ⟨a0, v0, z0, y0, _⟩ := R.own i m0 d0 e0
  refine ⟨.ref a0, z0, .inl ⟨rfl, _, SqL.of y0⟩, he.sd F ρ _ σ S H _ hw R fun d ρ1 v S1 H1 hp R1 s1 d1 => ?_⟩
  obtain ⟨m, ds, e1, hz, hp⟩ := hp.out
  obtain ⟨a1, vs, z1, z2, z3, z4, z5⟩ := R1.own i m ds e1
  rw [z0] at z1
  cases z1
  exact ⟨a0, vs, v, rfl, rfl, z2, by rw [z4.len]; exact hz, T.nx _ σ S1 _ hp (R1.mut e1 z0 (z4.snoc d1)) s1⟩⟩
/-- x.pop(e) -/
theorem ev_popAt (i : Nat) {x : Str} {px pa pc : Pos} (he : EV X e te we) (hN : X.N[i]? = some x := by rfl) (hv : Vis X.env.scope x := by first | exact Or.inl rfl | exact Or.inr (Or.inl rfl) | exact Or.inr (Or.inr rfl)) (hd : (x == ("__debug__" : Str)) = false := by decide) (hcd : (x == ("__classdict__" : Str)) = false := by decide)
    (hbase : attributeBase (.Name x px) "pop" X.env (eval (.Name x px) X.env) = eval (.Name x px) X.env := by rfl)
    (hfew : ((backTo pc (starEach [e] X.env)).all (fun x => !x.1) && (backToKw pc (keywordEach [] X.env)).all (fun x => x.1.isSome)
      && decide ([e].length + ([] : List Keyword).length + (if ([] : List Keyword).isEmpty then 0 else 1) < 30)) = true := by rfl)
    (hline : (pa.endLine == pc.line) = true := by rfl) (hs : starEach [e] X.env = (false, eval e X.env) :: starEach [] X.env := by rfl) (hpl : (backTo pc (starEach [] X.env)).any (·.1) = false := by rfl) :
    EV X (.Call (.Attribute (.Name x px) "pop" pa) [e] [] pc) (tBM X.K "list" rPopAt (tVar i) (tCons te tNil)) (wPopAt i we) :=
  ⟨pe_bm PySem.F.plainAttrs_list PySem.F.slot_list_pop PySem.F.type_list_pop mt_popAt (pe_var hN hv hd hcd) (pa_cons he.pe pa_nil hs) hbase hfew hline hs hpl, fun F ρ P σ S H Q hw R q => by
  obtain ⟨m0, d0, e0, hw⟩ := hw.out
  obtain ⟨a0, v0, z0, y0, _⟩ := R.own i m0 d0 e0
  refine ⟨.ref a0, z0, .inl ⟨rfl, _, SqL.of y0⟩, he.sd F ρ _ σ S H _ hw R fun d ρ1 v S1 H1 hp R1 s1 d1 => ?_⟩
  obtain ⟨m, ds, e1, hp⟩ := hp.out
  obtain ⟨k, rfl, hk, hp⟩ := hp.out
  obtain ⟨z, hz, hp⟩ := hp.out
  cases d1
  obtain ⟨a1, vs, z1, z2, z3, z4, z5⟩ := R1.own i m ds e1
  rw [z0] at z1
  cases z1
  obtain ⟨u, g1, g2⟩ := z4.at hz
  have hlt : k < vs.length := (List.getElem?_eq_some_iff.mp g1).1
  refine ⟨a0, vs, k, k, u, rfl, rfl, z2, by omega, by omega, ?_, g1, q z _ u S1 _ hp (R1.mut e1 z0 (z4.eraseIdx k)) s1 g2⟩
  unfold seqIndex?
  simp
  omega⟩
/-- x[e1] = e -/
theorem sv_setO (i : Nat) {x : Str} {px ps pos : Pos} {e1 : Expr} {t1 : TE} {w1 : W1} (he : EV X e te we) (h1 : EV X e1 t1 w1) (hpg : PG X (.Subscript (.Name x px) e1 ps) (gSub (tVar i) t1 rSetL)) (hN : X.N[i]? = some x := by rfl) (hv : Vis X.env.scope x := by first | exact Or.inl rfl | exact Or.inr (Or.inl rfl) | exact Or.inr (Or.inr rfl)) (hd : (x == ("__debug__" : Str)) = false := by decide) (hcd : (x == ("__classdict__" : Str)) = false := by decide)
    (hs : swapsWithSole [.Subscript (.Name x px) e1 ps] e pos.line X.env = pure false := by rfl) (hw : swappedStores [.Subscript (.Name x px) e1 ps] e X.env = pure none := by rfl)
    (ha : (assignEach [.Subscript (.Name x px) e1 ps] X.env).map (·.2) = [assign (.Subscript (.Name x px) e1 ps) X.env] := by rfl) :
    SV X (.Assign [.Subscript (.Name x px) e1 ps] e pos) (tAsg te (gSub (tVar i) t1 rSetL)) (wSetO i we w1) :=
  ⟨ps_asg he.pe hpg hs hw ha, fun F ρ N σ S H D hw R T =>
  he.sd F ρ _ σ S H _ hw R fun d ρ1 v S1 H1 hp R1 s1 d1 => by
    obtain ⟨m0, d0, e0, hp⟩ := hp.out
    obtain ⟨a0, v0, z0, y0, _⟩ := R1.own i m0 d0 e0
    refine ⟨.ref a0, z0, h1.sd F ρ1 _ σ S1 H1 _ hp R1 fun y ρ2 vy S2 H2 hp R2 s2 d2 => ?_⟩
    obtain ⟨m, ds, e2, hp⟩ := hp.out
    obtain ⟨k, rfl, hk, hp⟩ := hp.out
    cases d2
    obtain ⟨a1, vs, z1, z2, z3, z4, z5⟩ := R2.own i m ds e2
    rw [z0] at z1
    cases z1
    refine ⟨a0, vs, k, k, rfl, rfl, z2, ?_, T.nx _ σ S2 _ hp (R2.mut e2 z0 (z4.set k (dp_mono s2 d v d1))) (s1.trans s2)⟩
    unfold ixN
    rw [if_pos (by omega), if_pos (by rw [z4.len]; omega)]
    simp⟩
end
end Tr
set_option Elab.async false
set_option linter.all false
set_option maxRecDepth 100000
set_option maxHeartbeats 2000000
/-! Tr6: comprehensions, slices, + of lists and tuples, in -/
namespace Tr
open PySem PySem.Spec PyProof.Rows L2
variable [Tabbed]

/-! ### an object that is held meanwhile -/
def Fm.hold (F : Fm) (p : Addr) (o : HO) : Fm := { F with H0 := upd F.H0 p o }
section
variable {K : PySem.W.Frag} {F : Fm} {S H : Hp} {σ : L2.St} {ρ : En} {p : Addr} {vs : List V}
theorem Rep.hold (R : Rep K F S H σ ρ) (B : Bare F S H σ ρ p vs) : Rep K (F.hold p (.lst vs)) S H σ ρ where
  sub := R.sub
  s0 := R.s0
  fresh := fun b h1 h2 => by
    have hb : b ≠ p := fun z => h2 (z ▸ B.s)
    show upd F.H0 p _ b = none
    rw [upd_ne hb]
    exact R.fresh b h1 h2
  keep := fun b o e hm => by
    by_cases hb : b = p
    · subst hb
      rw [show (F.hold b (.lst vs)).H0 b = some (.lst vs) from upd_same] at e
      cases e
      exact B.at_
    · rw [show (F.hold p (.lst vs)).H0 b = F.H0 b from upd_ne hb] at e
      exact R.keep b o e hm
  m0 := fun b hm => by
    by_cases hb : b = p
    · subst hb
      exact fun _ => R.m0 b hm B.h0
    · rw [show (F.hold p (.lst vs)).H0 b = F.H0 b from upd_ne hb]
      exact R.m0 b hm
  mt := R.mt
  tok := R.tok
  tfree := R.tfree
  len := R.len
  at_ := R.at_
  own := fun i m ds e => by
    obtain ⟨a, ws, h1, h2, h3, h4, h5⟩ := R.own i m ds e
    refine ⟨a, ws, h1, h2, h3, h4, ?_⟩
    cases m with
    | true => exact h5
    | false =>
      have hb : a ≠ p := fun z => B.ap i false ds e (by rw [h1, z])
      rw [if_neg Bool.false_ne_true]
      exact (upd_ne hb).trans (show F.H0 a = none from h5)
  apart := R.apart
  dic := R.dic
  obj := ⟨fun i o e => by
    obtain ⟨h1, h2, h3, h4⟩ := R.obj.at_ i o e
    refine ⟨h1, h2, fun b hb => ⟨(h3 b hb).1, (h3 b hb).2.imp id fun z => ?_⟩, ?_⟩
    · obtain ⟨x, hx, so⟩ := h2.live b hb
      exact (upd_ne (show b ≠ p from fun y => lst_soft B.at_ x (by rw [← y]; exact hx) so)).trans z
    · cases o with
      | dk q m =>
        obtain ⟨x, hx, so⟩ := h2.live q rfl
        exact (upd_ne (show q ≠ p from fun y => lst_soft B.at_ x (by rw [← y]; exact hx) so)).trans h4
      | _ => trivial, R.obj.apart⟩
theorem Rep.unhold (R : Rep K (F.hold p (.lst vs)) S H σ ρ) (h0 : F.H0 p = none) (hs : F.S0 p = none) (hm : ¬ F.M p) : Rep K F S H σ ρ ∧ Bare F S H σ ρ p vs := by
  have hat : H p = some (.lst vs) := R.keep p _ upd_same hm
  have hS : S p = none := by
    cases e : S p with
    | none => rfl
    | some o =>
      have z := R.fresh p hs (by rw [e]; simp)
      rw [show (F.hold p (.lst vs)).H0 p = some (.lst vs) from upd_same] at z
      cases z
  have low : ∀ a, (F.hold p (.lst vs)).H0 a = none → a ≠ p ∧ F.H0 a = none := fun a e => by
    by_cases hb : a = p
    · subst hb
      rw [show (F.hold a (.lst vs)).H0 a = some (.lst vs) from upd_same] at e
      cases e
    · exact ⟨hb, (upd_ne hb).symm.trans e⟩
  refine ⟨⟨R.sub, R.s0, fun b h1 h2 => (low b (R.fresh b h1 h2)).2, fun b o e hb => ?_, fun b hb z => ?_, R.mt, R.tok, R.tfree, R.len, R.at_, fun i m ds e => ?_, R.apart, R.dic, ⟨fun i o e => by
    obtain ⟨h1, h2, h3, h4⟩ := R.obj.at_ i o e
    refine ⟨h1, h2, fun b hb => ⟨(h3 b hb).1, (h3 b hb).2.imp id fun z => (low b z).2⟩, ?_⟩
    cases o with
    | dk q m => exact (low q h4).2
    | _ => trivial, R.obj.apart⟩⟩, ⟨hat, hS, h0, fun i m ds e z => ?_⟩⟩
  · by_cases hbp : b = p
    · subst hbp
      rw [h0] at e
      cases e
    · exact R.keep b o ((upd_ne hbp).trans e) hb
  · by_cases hbp : b = p
    · exact hm (hbp ▸ hb)
    · exact R.m0 b hb ((upd_ne hbp).trans z)
  · obtain ⟨a, ws, h1, h2, h3, h4, h5⟩ := R.own i m ds e
    refine ⟨a, ws, h1, h2, h3, h4, ?_⟩
    cases m with
    | true => exact h5
    | false => exact (low a h5).2
  · obtain ⟨a, ws, h1, h2, h3, h4, h5⟩ := R.own i m ds e
    rw [h1] at z
    cases z
    cases m with
    | true => exact hm h5
    | false => exact (low p h5).1 rfl
/-- what a comprehension's names were is forgotten -/
theorem Rep.wiped (R : Rep K F S H σ ρ) : ∀ (ws : List Nat), (∀ v ∈ ws, ρ[v]? = some .un) → Rep K F S H (wipe σ ws) ρ := fun ws hw => by
  have hget : ∀ (i : Nat), i ∉ ws → (wipe σ ws)[i]? = σ[i]? := fun i hi => wipe_out hi
  have nin : ∀ (i : Nat) (x : Sl), ρ[i]? = some x → x ≠ .un → i ∉ ws := fun i x e hx hi => by
    rw [hw i hi] at e
    cases e
    exact hx rfl
  refine ⟨R.sub, R.s0, R.fresh, R.keep, R.m0, R.mt, R.tok, R.tfree, by rw [wipe_length]; exact R.len, fun i d e => ?_, fun i m ds e => ?_, fun i j m n ds es hne e e' => ?_, fun i m e => ?_, R.obj.rho fun i o e => ⟨e, hget i (nin i _ e (by simp))⟩⟩
  · rw [hget i (nin i _ e (by simp))]
    exact R.at_ i d e
  · rw [hget i (nin i _ e (by simp))]
    exact R.own i m ds e
  · rw [hget i (nin i _ e (by simp)), hget j (nin j _ e' (by simp))]
    exact R.apart i j m n ds es hne e e'
  · rw [hget i (nin i _ e (by simp))]
    exact R.dic i m e
def wipeE (ρ : En) : List Nat → En
  | [] => ρ
  | v :: vs => (wipeE ρ vs).set v .un
theorem wipeE_len (ρ : En) : ∀ ws : List Nat, (wipeE ρ ws).length = ρ.length
  | [] => rfl
  | v :: vs => by unfold wipeE; rw [List.length_set, wipeE_len ρ vs]
theorem wipeE_out {ρ : En} {i : Nat} : ∀ {ws : List Nat}, i ∉ ws → (wipeE ρ ws)[i]? = ρ[i]?
  | [], _ => rfl
  | v :: vs, h => by
    unfold wipeE
    rw [List.getElem?_set_ne (fun z => h (by rw [z]; exact List.mem_cons_self)), wipeE_out fun z => h (List.mem_cons_of_mem _ z)]
theorem wipeE_in {ρ : En} {i : Nat} {x : Sl} : ∀ {ws : List Nat}, i ∈ ws → (wipeE ρ ws)[i]? = some x → x = .un
  | v :: vs, hi, e => by
    unfold wipeE at e
    by_cases hv : v = i
    · subst hv
      by_cases hl : v < (wipeE ρ vs).length
      · rw [List.getElem?_set_self hl] at e
        cases e
        rfl
      · rw [List.getElem?_eq_none (by simpa using hl)] at e
        cases e
    · rw [List.getElem?_set_ne hv] at e
      rcases List.mem_cons.mp hi with z | z
      · exact absurd z.symm hv
      · exact wipeE_in z e
theorem Rep.back {σ2 : L2.St} {ws : List Nat} (R : Rep K F S H σ2 ρ) (hl : σ2.length = σ.length) (ag : ∀ j, j ∉ ws → σ2[j]? = σ[j]?) : Rep K F S H σ (wipeE ρ ws) := by
  have key : ∀ (i : Nat) (x : Sl), (wipeE ρ ws)[i]? = some x → x ≠ .un → ρ[i]? = some x ∧ σ2[i]? = σ[i]? := fun i x e hx => by
    by_cases hi : i ∈ ws
    · exact absurd (wipeE_in hi e) hx
    · rw [wipeE_out hi] at e
      exact ⟨e, ag i hi⟩
  refine ⟨R.sub, R.s0, R.fresh, R.keep, R.m0, R.mt, R.tok, R.tfree, by rw [wipeE_len, ← R.len, hl], fun i d e => ?_, fun i m ds e => ?_, fun i j m n ds es hne e e' => ?_, fun i m e => ?_, R.obj.rho fun i o e => ⟨(key i _ e (by simp)).1, (key i _ e (by simp)).2.symm⟩⟩
  · obtain ⟨h1, h2⟩ := key i _ e (by simp)
    rw [← h2]
    exact R.at_ i d h1
  · obtain ⟨h1, h2⟩ := key i _ e (by simp)
    rw [← h2]
    exact R.own i m ds h1
  · obtain ⟨h1, h2⟩ := key i _ e (by simp)
    obtain ⟨h3, h4⟩ := key j _ e' (by simp)
    rw [← h2, ← h4]
    exact R.apart i j m n ds es hne h1 h3
  · obtain ⟨h1, h2⟩ := key i _ e (by simp)
    rw [← h2]
    exact R.dic i m h1
theorem wipe_in {σ : L2.St} {i : Nat} : ∀ {ws : List Nat}, i ∈ ws → (wipe σ ws)[i]? = if i < σ.length then some none else none
  | v :: vs, hi => by
    unfold wipe
    by_cases hv : v = i
    · subst hv
      by_cases hl : v < σ.length
      · rw [List.getElem?_set_self (by rw [wipe_length]; exact hl), if_pos hl]
      · rw [List.getElem?_eq_none (by rw [List.length_set, wipe_length]; omega), if_neg hl]
    · rw [List.getElem?_set_ne hv]
      rcases List.mem_cons.mp hi with z | z
      · exact absurd z.symm hv
      · exact wipe_in z
theorem wipe_agr {σ σ2 : L2.St} {ts ws : List Nat} (h : Agr ts (wipe σ ws) σ2) (hs : ∀ j ∈ ts, j ∈ ws) : wipe σ2 ws = wipe σ ws := by
  apply List.ext_getElem?
  intro i
  have hl : σ2.length = σ.length := h.1.trans (wipe_length σ ws)
  by_cases hi : i ∈ ws
  · rw [wipe_in hi, wipe_in hi, hl]
  · rw [wipe_out hi, wipe_out hi, h.2 i (fun z => hi (hs i z)), wipe_out hi]
end
/-- a clause's tests -/
structure ETs (X : Cx) (ifs : List Expr) (t : TT) (w : WT) : Prop where
  pt : PTs X ifs t
  sd : SndT X.K t w
def wYes : WT := fun ρ P => P true ρ
theorem ets_nil {X : Cx} : ETs X [] tYes wYes := ⟨pts_nil, fun F ρ P σ S H Q hw R q => q true ρ S H hw R (Same.refl S)⟩
theorem ets_one {X : Cx} {c : Expr} {t : TT} {w : WT} (h : ET X c t w) : ETs X [c] t w := ⟨pts_one h.pt, h.sd⟩
/-- [elt for tg in it if ..]: I by the turn, what is made so far, the slots -/
def wTurn (wg : WG) (wt : WT) (we : W1) (ws : List Nat) (I : Nat → List PyData → En → Prop) (k : Nat) (x : PyData) (acc : List PyData) (ρ2 : En) : Prop :=
  (∀ v ∈ ws, ρ2[v]? = some .un) ∧ wg x ρ2 fun ρ3 => wt ρ3 fun b ρ4 => if b = true then we ρ4 fun y ρ5 => acc.length < sizeLine ∧ I (k + 1) (acc ++ [y]) (wipeE ρ5 ws) else I (k + 1) acc (wipeE ρ4 ws)
def wLc (wi : W1) (wg : WG) (wt : WT) (we : W1) (ws : List Nat) : WA := fun ρ P => ∃ tupS : Bool, wi ρ fun d ρ1 => ∃ ds, d = seqOf tupS ds ∧ ∃ I : Nat → List PyData → En → Prop, I 0 [] ρ1 ∧
  (∀ k x acc ρ2, ds[k]? = some x → I k acc ρ2 → wTurn wg wt we ws I k x acc ρ2) ∧ ∀ acc ρ2, I ds.length acc ρ2 → P acc ρ2
section
variable {K : PySem.W.Frag} {F : Fm} {S1 : Hp} {σ : L2.St} {g : TG} {tt : TT} {te : TE} {wg : WG} {wt : WT} {we : W1} {ts ws : List Nat} {I : Nat → List PyData → En → Prop} {D : Addr}
/-- what stands between two turns -/
def LcAt (K : PySem.W.Frag) (F : Fm) (S1 : Hp) (σ : L2.St) (D : Addr) (I : Nat → List PyData → En → Prop) (i : Nat) (H : Hp) : Prop :=
  ∃ S' ρ' acc us, Rep K F S' H σ ρ' ∧ Same S1 S' ∧ Bare F S' H σ ρ' D us ∧ DqAll K S' us acc ∧ I i acc ρ'
theorem lc_turn (hg : SndG K g ts wg) (ht : SndT K tt wt) (he : Snd K te we) (hts : ∀ j ∈ ts, j ∈ ws) {i : Nat} {x : V} {y : PyData} {H : Hp} (dy : Dq K S1 x y) (hm : ¬ F.M D) (hs0 : F.S0 D = none) (turn : ∀ acc ρ2, I i acc ρ2 → wTurn wg wt we ws I i y acc ρ2) (h : LcAt K F S1 σ D I i H) :
    g x (wipe σ ws) H fun σ2 H2 => wipe σ2 ws = wipe σ ws ∧ tt σ2 H2 fun b H3 =>
      if b = true then te σ2 H3 fun z H4 => ∃ acc, H4 D = some (.lst acc) ∧ acc.length < sizeLine ∧ LcAt K F S1 σ D I (i + 1) (upd H4 D (.lst (acc ++ [z]))) else LcAt K F S1 σ D I (i + 1) H3 := by
  obtain ⟨S', ρ', acc, us, R, sm, B, da, hI⟩ := h
  obtain ⟨hun, hw⟩ := turn acc ρ' hI
  have Rh := (R.hold B).wiped ws hun
  refine hg (F.hold D (.lst us)) ρ' _ (wipe σ ws) S' H x y _ hw Rh (dp_mono sm y x dy) fun ρ3 σ3 h3 R3 ag => ⟨wipe_agr ag hts, ?_⟩
  have hl3 : σ3.length = σ.length := ag.1.trans (wipe_length σ ws)
  have ag3 : ∀ j, j ∉ ws → σ3[j]? = σ[j]? := fun j hj => (ag.2 j fun z => hj (hts j z)).trans (wipe_out hj)
  refine ht _ ρ3 _ σ3 S' H _ h3 R3 fun b ρ4 S4 H4 h4 R4 s4 => ?_
  cases b with
  | true =>
    rw [if_pos rfl] at h4 ⊢
    refine he _ ρ4 _ σ3 S4 H4 _ h4 R4 fun z ρ5 v S5 H5 h5 R5 s5 d5 => ?_
    obtain ⟨R6, B6⟩ := (R5.back hl3 ag3).unhold B.h0 hs0 hm
    refine ⟨us, B6.at_, by rw [da.len]; exact h5.1, S5, _, acc ++ [z], us ++ [v], R6.poke B6.at_ B6.s B6.h0 B6.ap _, sm.trans (s4.trans s5), ⟨upd_same, B6.s, B6.h0, B6.ap⟩, (dpAll_mono (s4.trans s5) acc us da).snoc d5, h5.2⟩
  | false =>
    rw [if_neg Bool.false_ne_true] at h4 ⊢
    obtain ⟨R6, B6⟩ := (R4.back hl3 ag3).unhold B.h0 hs0 hm
    exact ⟨S4, _, acc, us, R6, sm.trans s4, B6, dpAll_mono s4 acc us da, h4⟩
end
section
variable {X : Cx} {elt tg it : Expr} {ifs : List Expr} {scope : Scope} {own : List (Str × Nat)} {pos : Pos} {ti : TE} {wi : W1} {g : TG} {ts : List Nat} {wg : WG} {tt : TT} {wt : WT} {te : TE} {we : W1}
theorem snd_lc {K : PySem.W.Frag} {ws : List Nat} (hi : Snd K ti wi) (hg : SndG K g ts wg) (ht : SndT K tt wt) (he : Snd K te we) (hts : ∀ j ∈ ts, j ∈ ws) : SndN K (tLc (iSeq K ti) g tt te ws) (wLc wi wg wt we ws) := fun F ρ P σ S H Q hw R q => by
  obtain ⟨tupS, hw⟩ := hw
  have start : ∀ (S1 H1 : Hp) (ρ1 : En) (D : Addr) (I : Nat → List PyData → En → Prop), Rep K F S1 H1 σ ρ1 → I 0 [] ρ1 → H1 D = none → LcAt K F S1 σ D I 0 (upd H1 D (.lst [])) := fun S1 H1 ρ1 D I R1 i0 n => ⟨S1, ρ1, [], [], R1.lay n _, Same.refl _, R1.bare n, .nil, i0⟩
  have fin : ∀ (S1 H' : Hp) (D : Addr) (ds : List PyData) (m : Nat) (I : Nat → List PyData → En → Prop), m = ds.length → (∀ acc ρ2, I ds.length acc ρ2 → P acc ρ2) → Same S S1 → LcAt K F S1 σ D I m H' → Q (.ref D) H' := fun S1 H' D ds m I hm hf s1 ⟨S', ρ', acc, us, R', sm, B, da, hI⟩ =>
    q acc ρ' D us S' H' (hf acc ρ' (hm ▸ hI)) R' (s1.trans sm) B da
  cases tupS with
  | false =>
    refine .inl (hi F ρ _ σ S H _ hw R fun d ρ1 v S1 H1 h1 R1 s1 d1 => ?_)
    obtain ⟨ds, ed, I, i0, turn, hf⟩ := h1
    subst ed
    cases d1 with
    | @lst a xs _ sq hd =>
      refine ⟨a, rfl, ⟨xs, same_sqL R1.sub sq⟩, fun D n => lc_list (xs := xs) (LcAt K F S1 σ D I) (start S1 H1 ρ1 D I R1 i0 n) (fun i H _ ⟨S', ρ', acc, us, R', sm, _⟩ => same_sqL (sm.trans R'.sub) sq) (fun i x H hx hL => ?_) fun H hL => fin S1 H D ds xs.length I hd.len hf s1 hL⟩
      obtain ⟨y, hy, dy⟩ := hd.at' hx
      exact lc_turn hg ht he hts dy (fun z => R1.m0 D z (R1.h0 n)) (same_none R1.s0 (same_none R1.sub n)) (fun acc ρ2 hI => turn i y acc ρ2 hy hI) hL
  | true =>
    refine .inr (hi F ρ _ σ S H _ hw R fun d ρ1 v S1 H1 h1 R1 s1 d1 => ?_)
    obtain ⟨ds, ed, I, i0, turn, hf⟩ := h1
    subst ed
    cases d1 with
    | @tup a xs _ sq hd =>
      refine ⟨a, rfl, ⟨xs, same_sqT R1.sub sq⟩, fun D n => lc_tup (xs := xs) (LcAt K F S1 σ D I) (start S1 H1 ρ1 D I R1 i0 n) (fun i H _ ⟨S', ρ', acc, us, R', sm, _⟩ => same_sqT (sm.trans R'.sub) sq) (fun i x H hx hL => ?_) fun H hL => fin S1 H D ds xs.length I hd.len hf s1 hL⟩
      obtain ⟨y, hy, dy⟩ := hd.at' hx
      exact lc_turn hg ht he hts dy (fun z => R1.m0 D z (R1.h0 n)) (same_none R1.s0 (same_none R1.sub n)) (fun acc ρ2 hI => turn i y acc ρ2 hy hI) hL
/-- a comprehension -/
theorem en_lc (own : List (Str × Nat)) (hc : X.calm = true) (hN : X.N.Nodup) (hi : EV X it ti wi) (hok : BlkOk X.N X.env.scope scope own)
    (hg : ∀ (s : Shared) (H : Hp) (C : Addr) (cl : List (Str × Addr)) (fp : List Addr), GV (X.blk s H scope (compEnvC scope cl C X.env) fp) tg g ts wg) (ht : ∀ (s : Shared) (H : Hp) (C : Addr) (cl : List (Str × Addr)) (fp : List Addr), ETs (X.blk s H scope (compEnvC scope cl C X.env) fp) ifs tt wt)
    (he : ∀ (s : Shared) (H : Hp) (C : Addr) (cl : List (Str × Addr)) (fp : List Addr), EV (X.blk s H scope (compEnvC scope cl C X.env) fp) elt te we) (hts : ∀ j ∈ ts, j ∈ own.map (·.2)) (hs : ∀ x, foldedSetIterable it X.env x = pure x := by intro _; rfl) :
    EN X (.ListComp elt [⟨tg, it, ifs, 0⟩] scope pos) (tLc (iSeq X.K ti) g tt te (own.map (·.2))) (wLc wi wg wt we (own.map (·.2))) :=
  ⟨pe_lc hc hN (pi_seq hi.pe) hok (fun s H C cl fp => (hg s H C cl fp).pg) (fun s H C cl fp => (ht s H C cl fp).pt) (fun s H C cl fp => (he s H C cl fp).pe) hs,
    snd_lc hi.sd (fun F ρ P σ S H v d Q => (hg {} (fun _ => none) 0 [] []).sd F ρ P σ S H v d Q) (fun F ρ P σ S H Q => (ht {} (fun _ => none) 0 [] []).sd F ρ P σ S H Q) (fun F ρ P σ S H Q => (he {} (fun _ => none) 0 [] []).sd F ρ P σ S H Q) hts⟩
end
end Tr
set_option Elab.async false
set_option linter.all false
set_option maxRecDepth 100000
set_option maxHeartbeats 2000000
/-! Tr7: slices, + and * of lists and tuples, in, repr, comprehensions over ranges and given to names -/
namespace Tr
open PySem PySem.Spec PyProof.Rows L2
variable [Tabbed]

/-! ### + -/
def rCatQ (K : PySem.W.Frag) : R2 := fun x y H Q => ∃ l b xs zs, x = .ref l ∧ y = .ref b ∧ SqQ K H l xs ∧ SqQ K H b zs ∧ xs.length + zs.length ≤ sizeLine ∧ ∀ p, H p = none → Q (.ref p) (upd H p (.lst (xs ++ zs)))
def wRep (wn : WA) (wb : W1) : WA := fun ρ P => wn ρ fun ds ρ1 => wb ρ1 fun y ρ2 => asNat y fun k => k < 1000000 ∧ ds.length * k ≤ sizeLine ∧ P (List.replicate k ds).flatten ρ2
section
variable {X : Cx} {a b e : Expr} {ta tb te : TE} {wa wb we : W1} {wn wm : WA} {pos : Pos}
theorem sqQ_obj {pins : List (Addr × Obj)} {σ : L2.St} {H : Hp} {s : Shared} {l : Addr} {xs : List V} (I : L2.Inv X pins σ H s) (h : SqQ X.K H l xs) : ∃ (its : List Value) (n : Nat), Vals xs its ∧ s.heap.get? l = some { cls := .type "list", data := .seq its.toArray n } := by
  rcases h with h | ⟨its, n, h1, h2, h3⟩
  · obtain ⟨_, its, n, r, e⟩ := h.ok I.hok
    exact ⟨its, n, r, e⟩
  · exact ⟨its, n, h3, I.kIn l _ h1⟩
theorem op_catQ : OpR X (binaryOp .Add) (rCatQ X.K) := fun pins s σ H x y v u Q I rx ry h => by
  obtain ⟨l, b, xs, zs, rfl, rfl, h1, h2, hz, q⟩ := h
  obtain ⟨i1, n1, r1, e1⟩ := sqQ_obj I h1
  obtain ⟨i2, n2, r2, e2⟩ := sqQ_obj I h2
  cases rx
  cases ry
  have l1 := r1.length
  have l2 := r2.length
  refine PySem.P.add_list e1 e2 ?_ (by simp only [List.size_toArray]; omega)
  rw [show i1.toArray ++ i2.toArray = (i1 ++ i2).toArray by simp]
  exact ⟨.ref _, _, I.lnew (t' := s.toks) (r1.append r2) (by simpa using hz), rfl, q _ I.fresh⟩
def gCatL : PyData → PyData → (List PyData → Prop) → Prop := fun x y P => match x, y with
  | .list ds, .list es => ds.length + es.length ≤ sizeLine ∧ P (ds ++ es)
  | _, _ => False
theorem lift_catL {K : PySem.W.Frag} : Lift2N K (rCatQ K) gCatL := fun S H x y d e P Q sm dx dy hg q => by
  unfold gCatL at hg
  split at hg
  · cases dx with
    | lst s1 a1 =>
      cases dy with
      | lst s2 a2 => exact ⟨_, _, _, _, rfl, rfl, same_sqQ sm s1, same_sqQ sm s2, by rw [a1.len, a2.len]; exact hg.1, fun p n => q p _ _ n hg.2 (a1.append a2)⟩
  · exact hg.elim
theorem en_catL (ha : EV X a ta wa) (hb : EV X b tb wb) : EN X (.BinOp a .Add b pos) (tOp (rCatQ X.K) ta tb) (wOpN gCatL wa wb) := ⟨pe_op op_catQ ha.pe hb.pe, snd_opN lift_catL ha.sd hb.sd⟩
def gCatT : PyData → PyData → (PyData → Prop) → Prop := fun x y P => match x, y with
  | .tuple ds, .tuple es => ds.length + es.length ≤ sizeLine ∧ P (.tuple (ds ++ es))
  | _, _ => False
theorem lift_catT {K : PySem.W.Frag} : Lift2T K (rCatA K) gCatT := fun S H x y d e P Q sm dx dy hg q q2 => by
  unfold gCatT at hg
  split at hg
  · rename_i ds es
    cases dx with
    | tup s1 a1 =>
      cases dy with
      | tup s2 a2 =>
        have h1 := a1.len
        have h2 := a2.len
        refine ⟨_, _, _, _, rfl, rfl, same_sqT sm s1, same_sqT sm s2, by rw [h1, h2]; exact hg.1, fun e => ?_, fun _ e => ?_, fun _ _ p n => q2 p _ _ n hg.2 (a1.append a2)⟩
        · have e' : ds = [] := List.eq_nil_of_length_eq_zero (by rw [← h1, e]; rfl)
          subst e'
          exact q _ _ (by simpa using hg.2) (.tup s2 a2)
        · have e' : es = [] := List.eq_nil_of_length_eq_zero (by rw [← h2, e]; rfl)
          subst e'
          exact q _ _ (by simpa using hg.2) (.tup s1 a1)
  · exact hg.elim
theorem ev_catT (ha : EV X a ta wa) (hb : EV X b tb wb) : EV X (.BinOp a .Add b pos) (tOp (rCatA X.K) ta tb) (wOp gCatT wa wb) := ⟨pe_op op_catA ha.pe hb.pe, snd_opT lift_catT ha.sd hb.sd⟩
/-- a new list times a number -/
theorem en_rep (ha : EN X a ta wn) (hb : EV X b tb wb) : EN X (.BinOp a .Mult b pos) (tOp rRep ta tb) (wRep wn wb) := ⟨pe_op op_rep ha.pe hb.pe, fun F ρ P σ S H Q hw R q =>
  ha.sd F ρ _ σ S H _ hw R fun ds ρ1 p vs S1 H1 h1 R1 s1 B1 d1 => by
    have hold := R1.hold B1
    refine hb.sd _ ρ1 _ σ S1 H1 _ h1 hold fun y ρ2 vy S2 H2 h2 R2 s2 d2 => ?_
    obtain ⟨k, rfl, hk, hz, hp⟩ := h2.out
    cases d2
    obtain ⟨R3, B3⟩ := R2.unhold B1.h0 (same_none R1.s0 B1.s) (fun z => R1.m0 p z B1.h0)
    refine ⟨p, k, vs, rfl, rfl, B3.at_, by omega, by omega, by rw [d1.len]; simpa using hz, fun l n => q _ ρ2 l _ S2 _ hp (R3.lay n _) (s1.trans s2) (R3.bare n) ?_⟩
    have hrep : ∀ m : Nat, DqAll X.K S2 (List.replicate m vs).flatten (List.replicate m ds).flatten := fun m => by
      induction m with
      | zero => exact .nil
      | succ m ih =>
        rw [List.replicate_succ, List.replicate_succ, List.flatten_cons, List.flatten_cons]
        exact (dpAll_mono s2 ds vs d1).append ih
    simpa using hrep k⟩

/-! ### in -/
def rInQ (K : PySem.W.Frag) (neg : Bool) : R2 := fun x y H Q => ∃ d ds tupS, Dp K H x d ∧ Dp K H y (seqOf tupS ds) ∧ SeqAt.shaped d = true ∧ SeqAt.shaped (seqOf tupS ds) = true ∧ Q (.bl (if neg = true then !ds.any fun z => PyData.eqv z d else ds.any fun z => PyData.eqv z d)) H
theorem op_inQ (hu : X.A.units + 65 < cLine) : OpR X (compareOp .In) (rInQ X.K false) := fun pins s σ H x y v u Q I rx ry h => by
  obtain ⟨d, ds, tupS, hd, he, sd, se, q⟩ := h
  obtain ⟨as, r1⟩ := Dp.reads I d x v hd rx
  obtain ⟨bs, r2⟩ := Dp.reads I _ y u he ry
  cases tupS with
  | false => exact SeqAt.in_list_reads r2 r1 (SeqAt.canLay_of_shaped se) (SeqAt.canLay_of_shaped sd) (room_in_shaped sd hu) ⟨.bl _, H, I, rfl, q⟩
  | true => exact SeqAt.in_tuple_reads r2 r1 (SeqAt.canLay_of_shaped se) (SeqAt.canLay_of_shaped sd) (room_in_shaped sd hu) ⟨.bl _, H, I, rfl, q⟩
theorem op_notInQ (hu : X.A.units + 65 < cLine) : OpR X (compareOp .NotIn) (rInQ X.K true) := fun pins s σ H x y v u Q I rx ry h => by
  obtain ⟨d, ds, tupS, hd, he, sd, se, q⟩ := h
  obtain ⟨as, r1⟩ := Dp.reads I d x v hd rx
  obtain ⟨bs, r2⟩ := Dp.reads I _ y u he ry
  cases tupS with
  | false => exact SeqAt.notIn_list_reads r2 r1 (SeqAt.canLay_of_shaped se) (SeqAt.canLay_of_shaped sd) (room_in_shaped sd hu) ⟨.bl _, H, I, rfl, q⟩
  | true => exact SeqAt.notIn_tuple_reads r2 r1 (SeqAt.canLay_of_shaped se) (SeqAt.canLay_of_shaped sd) (room_in_shaped sd hu) ⟨.bl _, H, I, rfl, q⟩
def gIn (neg : Bool) : PyData → PyData → (PyData → Prop) → Prop := fun x y P => ∃ tupS ds, y = seqOf tupS ds ∧ SeqAt.shaped x = true ∧ SeqAt.shaped (seqOf tupS ds) = true ∧ P (.bool (if neg = true then !ds.any fun z => PyData.eqv z x else ds.any fun z => PyData.eqv z x))
theorem lift_in {K : PySem.W.Frag} {neg : Bool} : Lift2 K (rInQ K neg) (gIn neg) := fun S H x y d e P Q sm dx dy hg q => by
  obtain ⟨tupS, ds, rfl, h1, h2, hp⟩ := hg
  exact ⟨d, ds, tupS, (dp_mono sm d x dx).p h1, (dp_mono sm _ y dy).p h2, h1, h2, q _ _ hp (.bl _)⟩
theorem ev_in (hu : X.A.units + 65 < cLine) (ha : EV X a ta wa) (hb : EV X b tb wb) (hm : behindInMarks .In b = false := by rfl) : EV X (.Compare a [.In] [b] pos) (tOp (rInQ X.K false) ta tb) (wOp (gIn false) wa wb) := ev_cmpI (op_inQ hu) lift_in ha hb hm
theorem ev_notIn (hu : X.A.units + 65 < cLine) (ha : EV X a ta wa) (hb : EV X b tb wb) (hm : behindInMarks .NotIn b = false := by rfl) : EV X (.Compare a [.NotIn] [b] pos) (tOp (rInQ X.K true) ta tb) (wOp (gIn true) wa wb) := ev_cmpI (op_notInQ hu) lift_in ha hb hm
theorem et_in (hu : X.A.units + 65 < cLine) (ha : EV X a ta wa) (hb : EV X b tb wb) (hm : behindInMarks .In b = false := by rfl) : ET X (.Compare a [.In] [b] pos) (tTest (tOp (rInQ X.K false) ta tb)) (wB (wOp (gIn false) wa wb)) := et_cmp (op_inQ hu) lift_in ha hb hm
theorem et_notIn (hu : X.A.units + 65 < cLine) (ha : EV X a ta wa) (hb : EV X b tb wb) (hm : behindInMarks .NotIn b = false := by rfl) : ET X (.Compare a [.NotIn] [b] pos) (tTest (tOp (rInQ X.K true) ta tb)) (wB (wOp (gIn true) wa wb)) := et_cmp (op_notInQ hu) lift_in ha hb hm

/-! ### slices: a list gives a new list; what it is of may be a slot's own list -/
def wPart (wo : Option W1) : En → (Option Int → En → Prop) → Prop := fun ρ P => match wo with
  | none => P none ρ
  | some w => w ρ fun d ρ1 => match d with
    | .int i => P (some i) ρ1
    | _ => False
/-- a slice's bound -/
structure EO (X : Cx) (e : Option Expr) (t : TO) (wo : Option W1) : Prop where
  po : PO X e t
  sd : ∀ (F : Fm) (ρ : En) (P : Option Int → En → Prop) (σ : L2.St) (S H : Hp) (Q : Option Int → Hp → Prop), wPart wo ρ P → Rep X.K F S H σ ρ → (∀ o ρ' S' H', P o ρ' → Rep X.K F S' H' σ ρ' → Same S S' → Q o H') → t σ H Q
theorem eo_none : EO X none tNoPart none := ⟨po_none, fun F ρ P σ S H Q hw R q => q none ρ S H hw R (Same.refl S)⟩
theorem eo_some (h : EV X e te we) : EO X (some e) (tPart te) (some we) := ⟨po_some h.pe, fun F ρ P σ S H Q hw R q => h.sd F ρ _ σ S H _ hw R fun d ρ' v S' H' hp R' sm hd => by
  split at hp
  · cases hd
    exact ⟨_, rfl, q _ ρ' S' H' hp R' sm⟩
  · exact hp.elim⟩
/-- what a slice is -/
def cutD (ds : List PyData) (lo hi : Option Int) : List PyData := (ds.drop (HT.sIx ds.length 0 lo)).take (HT.sIx ds.length ds.length hi - HT.sIx ds.length 0 lo)
theorem cut_dp {K : PySem.W.Frag} {S : Hp} {vs : List V} {ds : List PyData} {lo hi : Option Int} (h : DqAll K S vs ds) : DqAll K S (cutV vs lo hi) (cutD ds lo hi) := by
  unfold cutV cutD
  rw [h.len]
  exact (h.drop _).take _
def wSliceL (wa : W1) (wl wh : Option W1) : WA := fun ρ P => wa ρ fun d ρ1 => wPart wl ρ1 fun l ρ2 => wPart wh ρ2 fun u ρ3 => asList d fun ds => P (cutD ds l u) ρ3
def wSliceT (wa : W1) (wl wh : Option W1) : W1 := fun ρ P => wa ρ fun d ρ1 => wPart wl ρ1 fun l ρ2 => wPart wh ρ2 fun u ρ3 => asTuple d fun ds => P (.tuple (cutD ds l u)) ρ3
def wRev (wa : W1) : WA := fun ρ P => wa ρ fun d ρ1 => asList d fun ds => P ds.reverse ρ1
variable {lo hi : Option Expr} {tl th : TO} {wl wh : Option W1} {p2 : Pos}
theorem en_slice (ha : EV X a ta wa) (hl : EO X lo tl wl) (hh : EO X hi th wh) : EN X (.Subscript a (.Slice lo hi none p2) pos) (tSl (rSlL X.K) ta tl th) (wSliceL wa wl wh) := ⟨pe_slice sl_list ha.pe hl.po hh.po, fun F ρ P σ S H Q hw R q =>
  ha.sd F ρ _ σ S H _ hw R fun d ρ1 v S1 H1 h1 R1 s1 d1 => hl.sd F ρ1 _ σ S1 H1 _ h1 R1 fun l ρ2 S2 H2 h2 R2 s2 => hh.sd F ρ2 _ σ S2 H2 _ h2 R2 fun u ρ3 S3 H3 h3 R3 s3 => by
    obtain ⟨ds, rfl, hp⟩ := h3.out
    cases d1 with
    | lst sq hd => exact ⟨_, _, rfl, same_sqL (s2.trans (s3.trans R3.sub)) sq, fun p n => q _ ρ3 p _ S3 _ hp (R3.lay n _) (s1.trans (s2.trans s3)) (R3.bare n) (cut_dp (dpAll_mono (s2.trans s3) _ _ hd))⟩⟩
theorem ev_sliceT (ha : EV X a ta wa) (hl : EO X lo tl wl) (hh : EO X hi th wh) : EV X (.Subscript a (.Slice lo hi none p2) pos) (tSl (rSlA X.K) ta tl th) (wSliceT wa wl wh) := ⟨pe_slice sl_tupA ha.pe hl.po hh.po, fun F ρ P σ S H Q hw R q =>
  ha.sd F ρ _ σ S H _ hw R fun d ρ1 v S1 H1 h1 R1 s1 d1 => hl.sd F ρ1 _ σ S1 H1 _ h1 R1 fun l ρ2 S2 H2 h2 R2 s2 => hh.sd F ρ2 _ σ S2 H2 _ h2 R2 fun u ρ3 S3 H3 h3 R3 s3 => by
    obtain ⟨ds, rfl, hp⟩ := h3.out
    cases d1 with
    | @tup ad xs _ sq hd =>
      refine ⟨ad, xs, rfl, same_sqT (s2.trans (s3.trans R3.sub)) sq, fun hw => ?_, fun _ p n => q _ ρ3 _ _ _ hp (R3.new n (.tup _)) (s1.trans (s2.trans (s3.trans (same_new (same_none R3.sub n))))) (.tup (SqT.of upd_same) (dpAll_mono (same_new (same_none R3.sub n)) _ _ (cut_dp (dpAll_mono (s2.trans s3) _ _ hd))))⟩
      have e : cutD ds l u = ds := by
        have hl' := hd.len
        unfold cutD
        rw [← hl', hw.1, hw.2, List.drop_zero, Nat.sub_zero, hl', List.take_length]
      rw [e] at hp
      exact q _ ρ3 _ S3 H3 hp R3 (s1.trans (s2.trans s3)) (.tup (same_sqT (s2.trans s3) sq) (dpAll_mono (s2.trans s3) _ _ hd))⟩
/-- x[::-1] of a list -/
theorem en_rev {k : Nat} {p1 p3 p4 : Pos} (ha : EV X a ta wa) : EN X (.Subscript a (.Slice none none (some (.UnaryOp .USub (.Constant (.int 1) k p1) p3)) p4) pos) (tRevL X.K ta) (wRev wa) := ⟨pe_revL ha.pe, fun F ρ P σ S H Q hw R q =>
  ha.sd F ρ _ σ S H _ hw R fun d ρ1 v S1 H1 h1 R1 s1 d1 => by
    obtain ⟨ds, rfl, hp⟩ := h1.out
    cases d1 with
    | lst sq hd => exact ⟨_, _, rfl, same_sqL R1.sub sq, fun p n => q _ ρ1 p _ S1 _ hp (R1.lay n _) s1 (R1.bare n) hd.reverse⟩⟩

/-! ### repr -/
def rRepr (K : PySem.W.Frag) : List V → Hp → VK → Prop := fun vs H Q => ∃ v d, vs = [v] ∧ Dp K H v d ∧ d.showable = true ∧ d.hasDict = false ∧ d.shown.length ≤ sizeLine ∧ d.depth ≤ 64 ∧ Q (.str d.shown) H
theorem call_repr (hg : X.A.guards = some []) (hu : X.A.units + 66 < cLine) : CallR X (.builtin "repr") (rRepr X.K) := fun pins s σ H vs us Q I r h => by
  obtain ⟨v, d, rfl, hd, h1, h2, h3, h4, q⟩ := h
  obtain ⟨u, rfl, ru⟩ := vals1 r
  obtain ⟨as, rd⟩ := Dp.reads I d v u hd ru
  cases hd with
  | non =>
    cases ru
    exact PySem.P.repr_of_none ⟨.str _, H, I.tok _, ⟨_, rfl⟩, q⟩
  | bl b =>
    cases ru
    exact PySem.P.repr_of_bool ⟨.str _, H, I.tok _, ⟨_, rfl⟩, q⟩
  | int i =>
    obtain ⟨t, rfl⟩ := ru
    exact PySem.P.repr_of_int (by simpa [PyData.showable] using h1) ⟨.str _, H, I.tok _, ⟨_, rfl⟩, q⟩
  | str x =>
    obtain ⟨t, rfl⟩ := ru
    exact PySem.P.repr_of_str ⟨.str _, H, I.tok _, ⟨_, rfl⟩, q⟩ h3
  | lst _ _ =>
    cases ru
    exact repr_of_reads' rd h1 (PyData.noDict_hsm h2) hg (by omega) (fun _ _ e => e) (fun h' t tk hk => ⟨.str _, H, I.kept hk, ⟨_, rfl⟩, q⟩) h3
  | tup _ _ =>
    cases ru
    exact repr_of_reads' rd h1 (PyData.noDict_hsm h2) hg (by omega) (fun _ _ e => e) (fun h' t tk hk => ⟨.str _, H, I.kept hk, ⟨_, rfl⟩, q⟩) h3
/-- what can be shown -/
def Shows (d : PyData) : Prop := d.showable = true ∧ d.hasDict = false ∧ d.shown.length ≤ sizeLine ∧ d.depth ≤ 64
def gRepr : PyData → (PyData → Prop) → Prop := fun d P => Shows d ∧ P (.str d.shown)
theorem lift_repr {K : PySem.W.Frag} : LiftCR K (rRepr K) gRepr := fun H v d P Q dv hg q => ⟨v, d, rfl, dq_p d v (nd_of d hg.1.2.1) dv, hg.1.1, hg.1.2.1, hg.1.2.2.1, hg.1.2.2.2, q _ _ hg.2 fun _ => .str _⟩
theorem ev_repr {p : Pos} (hgd : X.A.guards = some []) (hu : X.A.units + 66 < cLine) (hm : X.mg "repr" = none) (ha : ER X e te we) (hg : Gl X "repr" := by rfl) (he : starEach [e] X.env = (false, eval e X.env) :: starEach [] X.env := by rfl) (hpl : (backTo pos (starEach [] X.env)).any (·.1) = false := by rfl) :
    EV X (.Call (.Name "repr" p) [e] [] pos) (tCB (rRepr X.K) (tCons te tNil)) (wFn1 gRepr we) := ev_callBR (call_repr hgd hu) lift_repr hm (by decide +kernel) ha hg (by decide) (by decide) he hpl

/-! ### a comprehension given to a name -/
variable {elt tg it : Expr} {ifs : List Expr} {scope : Scope} {ti : TE} {wi : W1} {g : TG} {ts : List Nat} {wg : WG} {tt : TT} {wt : WT}
theorem sv_setLc (i : Nat) {y : Str} {py spos : Pos} (own : List (Str × Nat)) (hc : X.calm = true) (hN : X.N.Nodup) (hi : EV X it ti wi) (hok : BlkOk X.N X.env.scope scope own)
    (hsw : swapsWith (.ListComp elt [⟨tg, it, ifs, 0⟩] scope pos) (some (.Name y py)) spos.line X.env = pure true)
    (hg : ∀ (s : Shared) (H : Hp) (C : Addr) (cl : List (Str × Addr)) (fp : List Addr), GV (X.blk s H scope (compEnvC scope cl C X.env) fp) tg g ts wg) (ht : ∀ (s : Shared) (H : Hp) (C : Addr) (cl : List (Str × Addr)) (fp : List Addr), ETs (X.blk s H scope (compEnvC scope cl C X.env) fp) ifs tt wt)
    (he : ∀ (s : Shared) (H : Hp) (C : Addr) (cl : List (Str × Addr)) (fp : List Addr), EV (X.blk s H scope (compEnvC scope cl C X.env) fp) elt te we) (hts : ∀ j ∈ ts, j ∈ own.map (·.2)) (hy : X.N[i]? = some y := by rfl) (hyl : X.env.scope.names.lookup y = some .local := by rfl) (hs : ∀ x, foldedSetIterable it X.env x = pure x := by intro _; rfl) :
    SV X (.Assign [.Name y py] (.ListComp elt [⟨tg, it, ifs, 0⟩] scope pos) spos) (tAsg (tLc (iSeq X.K ti) g tt te (own.map (·.2))) (gName i)) (wSetN i (wLc wi wg wt we (own.map (·.2)))) :=
  ⟨ps_setLc hc hN hy hyl hsw (pi_seq hi.pe) hok (fun s H C cl fp => (hg s H C cl fp).pg) (fun s H C cl fp => (ht s H C cl fp).pt) (fun s H C cl fp => (he s H C cl fp).pe) hs, fun F ρ N σ S H D hw R T =>
    (snd_lc hi.sd (fun F ρ P σ S H v d Q => (hg {} (fun _ => none) 0 [] []).sd F ρ P σ S H v d Q) (fun F ρ P σ S H Q => (ht {} (fun _ => none) 0 [] []).sd F ρ P σ S H Q) (fun F ρ P σ S H Q => (he {} (fun _ => none) 0 [] []).sd F ρ P σ S H Q) hts) F ρ _ σ S H _ hw R fun ds ρ' p vs S' H' hp R' sm B hd => T.nx _ _ S' H' hp (R'.setOwn i B.at_ B.s B.h0 B.ap hd) sm⟩
end
/-- a comprehension over range(e) -/
def wLcR (wi : W1) (wg : WG) (wt : WT) (we : W1) (ws : List Nat) : WA := fun ρ P => wi ρ fun d ρ1 => asInt d fun z => -(2 ^ 62) ≤ z ∧ z < 2 ^ 62 ∧ ∃ I : Nat → List PyData → En → Prop, I 0 [] ρ1 ∧
  (∀ (k : Nat) acc ρ2, k < z.toNat → I k acc ρ2 → wTurn wg wt we ws I k (.int k) acc ρ2) ∧ ∀ acc ρ2, I z.toNat acc ρ2 → P acc ρ2
section
variable {X : Cx} {elt tg a : Expr} {ifs : List Expr} {scope : Scope} {pos p rp : Pos} {ti te : TE} {wi we : W1} {g : TG} {ts : List Nat} {wg : WG} {tt : TT} {wt : WT}
theorem en_lcR (own : List (Str × Nat)) (hm : X.mg "range" = none) (hc : X.calm = true) (hN : X.N.Nodup) (hi : EV X a ti wi) (hok : BlkOk X.N X.env.scope scope own)
    (hg : ∀ (s : Shared) (H : Hp) (C : Addr) (cl : List (Str × Addr)) (fp : List Addr), GV (X.blk s H scope (compEnvC scope cl C X.env) fp) tg g ts wg) (ht : ∀ (s : Shared) (H : Hp) (C : Addr) (cl : List (Str × Addr)) (fp : List Addr), ETs (X.blk s H scope (compEnvC scope cl C X.env) fp) ifs tt wt)
    (he : ∀ (s : Shared) (H : Hp) (C : Addr) (cl : List (Str × Addr)) (fp : List Addr), EV (X.blk s H scope (compEnvC scope cl C X.env) fp) elt te we) (hts : ∀ j ∈ ts, j ∈ own.map (·.2)) (hgl : Gl X "range" := by rfl) (hst : starEach [a] X.env = [(false, eval a X.env)] := by rfl) (hs : ∀ x, foldedSetIterable (.Call (.Name "range" p) [a] [] rp) X.env x = pure x := by intro _; rfl) :
    EN X (.ListComp elt [⟨tg, .Call (.Name "range" p) [a] [] rp, ifs, 0⟩] scope pos) (tLc (iRng1 (tCons ti tNil)) g tt te (own.map (·.2))) (wLcR wi wg wt we (own.map (·.2))) :=
  ⟨pe_lc hc hN (pi_range1 hgl hm (pa_cons hi.pe pa_nil hst) hst) hok (fun s H C cl fp => (hg s H C cl fp).pg) (fun s H C cl fp => (ht s H C cl fp).pt) (fun s H C cl fp => (he s H C cl fp).pe) hs, fun F ρ P σ S H Q hw R q =>
    hi.sd F ρ _ σ S H _ hw R fun d ρ1 v S1 H1 h1 R1 s1 d1 => by
      obtain ⟨z, rfl, b1, b2, I, i0, turn, hf⟩ := h1.out
      cases d1
      refine ⟨z, rfl, b1, b2, fun D n => lc_range (lo := 0) (n := z.toNat) (LcAt X.K F S1 σ D I) ⟨S1, ρ1, [], [], R1.lay n _, Same.refl _, R1.bare n, .nil, i0⟩ (fun i H hlt hL => ?_) fun H ⟨S', ρ', acc, us, R', sm, B, da, hI⟩ => q acc ρ' D us S' H (hf acc ρ' hI) R' (s1.trans sm) B da⟩
      rw [show (0 : Int) + (i : Int) = (i : Int) by omega]
      exact lc_turn (fun F ρ P σ S H v d Q => (hg {} (fun _ => none) 0 [] []).sd F ρ P σ S H v d Q) (fun F ρ P σ S H Q => (ht {} (fun _ => none) 0 [] []).sd F ρ P σ S H Q) (fun F ρ P σ S H Q => (he {} (fun _ => none) 0 [] []).sd F ρ P σ S H Q) hts (.int i)
        (fun z => R1.m0 D z (R1.h0 n)) (same_none R1.s0 (same_none R1.sub n)) (fun acc ρ2 hI => turn i acc ρ2 hlt hI) hL⟩
end
end Tr
set_option Elab.async false
set_option linter.all false
set_option maxRecDepth 100000
set_option maxHeartbeats 2000000
/-! Tr8: trees: what can be compared, what is equal, how they are shown -/
namespace Tr
open PySem PySem.Spec PyProof.Rows L2
variable [Tabbed]
/-- of at most this depth, and comparable -/
def Good (n : Nat) (d : PyData) : Prop := d.canLay0 = true ∧ d.depth ≤ n
theorem Good.shaped {n : Nat} {d : PyData} (h : Good n d) (hn : n ≤ 64) : SeqAt.shaped d = true := by
  unfold SeqAt.shaped
  rw [h.1, Bool.true_and]
  exact decide_eq_true (Nat.le_trans h.2 hn)
theorem Good.mono {n m : Nat} {d : PyData} (h : Good n d) (l : n ≤ m) : Good m d := ⟨h.1, Nat.le_trans h.2 l⟩
theorem good_none {n : Nat} : Good n .none := ⟨rfl, Nat.zero_le _⟩
theorem good_bool {n : Nat} (b : Bool) : Good n (.bool b) := ⟨rfl, Nat.zero_le _⟩
theorem good_int {n : Nat} (i : Int) : Good n (.int i) := ⟨rfl, Nat.zero_le _⟩
theorem good_str {n : Nat} {x : Str} (h : PyData.strOk x = true) : Good n (.str x) := ⟨by simpa [PyData.canLay0] using h, Nat.zero_le _⟩
theorem good_all {n : Nat} : ∀ {ds : List PyData}, (∀ d ∈ ds, Good n d) → PyData.canLayAll0 ds = true ∧ PyData.depthAll ds ≤ n
  | [], _ => ⟨rfl, Nat.zero_le _⟩
  | d :: ds, h => by
    have h1 := h d List.mem_cons_self
    have h2 := good_all fun e he => h e (List.mem_cons_of_mem _ he)
    refine ⟨?_, ?_⟩
    · rw [PyData.canLayAll0, h1.1, h2.1] <;> rfl
    · rw [PyData.depthAll]
      exact Nat.max_le.mpr ⟨h1.2, h2.2⟩
theorem good_list {n : Nat} {ds : List PyData} (h : ∀ d ∈ ds, Good n d) : Good (n + 1) (.list ds) := by
  have h2 := good_all h
  exact ⟨by rw [PyData.canLay0]; exact h2.1, by rw [PyData.depth]; exact Nat.succ_le_succ h2.2⟩
theorem good_tuple {n : Nat} {ds : List PyData} (h : ∀ d ∈ ds, Good n d) : Good (n + 1) (.tuple ds) := by
  have h2 := good_all h
  exact ⟨by rw [PyData.canLay0]; exact h2.1, by rw [PyData.depth]; exact Nat.succ_le_succ h2.2⟩
theorem Good.eqv {n : Nat} {d : PyData} (h : Good n d) : PyData.eqv d d = true := SeqAt.eqv_refl d h.1
theorem eqv_str (x y : Str) : PyData.eqv (.str x) (.str y) = decide (x = y) := by
  rw [PyData.eqv, Bool.eq_iff_iff]
  simp
theorem eqv_int (x y : Int) : PyData.eqv (.int x) (.int y) = decide (x = y) := by
  rw [PyData.eqv, Bool.eq_iff_iff]
  simp
theorem eqv_bool (x y : Bool) : PyData.eqv (.bool x) (.bool y) = decide (x = y) := by
  rw [PyData.eqv, Bool.eq_iff_iff]
  simp
theorem eqv_tuple (xs ys : List PyData) : PyData.eqv (.tuple xs) (.tuple ys) = PyData.eqvAll xs ys := by rw [PyData.eqv]
theorem eqv_list (xs ys : List PyData) : PyData.eqv (.list xs) (.list ys) = PyData.eqvAll xs ys := by rw [PyData.eqv]
theorem eqvAll_nil : PyData.eqvAll [] [] = true := by rw [PyData.eqvAll]
theorem eqvAll_cons (x y : PyData) (xs ys : List PyData) : PyData.eqvAll (x :: xs) (y :: ys) = (PyData.eqv x y && PyData.eqvAll xs ys) := by rw [PyData.eqvAll]
theorem eqvAll_nc (y : PyData) (ys : List PyData) : PyData.eqvAll [] (y :: ys) = false := by simp [PyData.eqvAll]
theorem eqvAll_cn (y : PyData) (ys : List PyData) : PyData.eqvAll (y :: ys) [] = false := by simp [PyData.eqvAll]
end Tr
namespace Tr
open PySem PySem.Spec PyProof.Rows L2
/-! ### sorted(set(..)) of pairs of texts (few) -/
def duoD (p : Str × Str) : PyData := .tuple [.str p.1, .str p.2]
def StrLt (x y : Str) : Prop := x.cps.toList < y.cps.toList
def PairLt (p q : Str × Str) : Prop := StrLt p.1 q.1 ∨ (p.1 = q.1 ∧ StrLt p.2 q.2)
def gSortedSet : PyData → (List PyData → Prop) → Prop := fun d P => ∃ ps : List (Str × Str), d = .list (ps.map duoD) ∧ ps.length < 64 ∧ (∀ p ∈ ps, PyData.strOk p.1 = true ∧ PyData.strOk p.2 = true) ∧ ∀ qs : List (Str × Str), qs.Pairwise PairLt → (∀ p, p ∈ qs ↔ p ∈ ps) → qs.length ≤ ps.length → P (qs.map duoD)
end Tr
set_option Elab.async false
set_option linter.all false
set_option maxRecDepth 100000
set_option maxHeartbeats 2000000
/-! TrS: sets of tuples of texts, fewer than 64 of them; sorted(set(..)) -/
namespace Tr
open PySem PySem.Spec PyProof.Rows L2
variable [Tabbed]
section
variable {P : Program} {w : World} {A : Around} {E : Value → Shared → Prop} {s : Shared}
/-- b is the tuple of the texts k -/
abbrev IsX (P : Program) (w : World) (h : Heap) (k : List Str) (b : Addr) : Prop :=
  IsTupleKey (PySem.strKind P w) h k b
abbrev hX (P : Program) (w : World) (k : List Str) : Int :=
  tupleKeyHash (PySem.strKind P w) k
abbrev Ent := Addr × List Str
theorem texts_in {k : List Str} {us : List Value}
    (h : PySem.ItemsAre (PySem.strKind P w) k us) :
    ∀ u ∈ us, ∃ x t, u = Value.str x t := by
  induction h with
  | nil => exact fun u hu => nomatch hu
  | cons h1 _ ih =>
    intro u hu
    rcases List.mem_cons.mp hu with e | hu
    · obtain ⟨t, e2⟩ := Value.isStrOf_shape h1
      exact ⟨_, t, e.trans e2⟩
    · exact ih u hu
theorem quiet_str (n : Nat) (x : Str) (t : Tok) :
    ofAClassStatement n (.str x t) = pure false := by
  cases n <;> rfl
theorem quietX {k : List Str} {b : Addr} {Q : Bool → Shared → Prop}
    (hk : IsX P w s.heap k b) (q : Q false s) :
    wpAny (model P w) A (ofAClassStatement 8 (.ref b)) Q E s := by
  have ty := hk.typeIs
  obtain ⟨o, its, n, ho, hc, hd, hi⟩ := hk
  unfold ofAClassStatement
  refine wpAny_bind (wpAny_typeOf ty ?_)
  simp only [beq_self_eq_true, if_true]
  refine wpAny_bind (wpAny_pure ?_)
  simp only [Bool.not_true, Bool.false_eq_true, if_false]
  refine wpAny_bind (wpAny_seqItems ho hd ?_)
  dsimp only
  refine wpAny_bind ?_
  rw [← Array.forIn_toList]
  refine wpAny_forIn_list _ (fun l r s1 => (r.1 = none ∧ s1 = s) ∧ ∀ u ∈ l, ∃ x t, u = Value.str x t) _
    ?_ ?_ _ _ ⟨⟨rfl, rfl⟩, texts_in hi⟩
  · rintro u l r s1 ⟨⟨e1, rfl⟩, al⟩
    obtain ⟨x, t, rfl⟩ := al u List.mem_cons_self
    rw [quiet_str]
    refine wpAny_bind (wpAny_pure ?_)
    simp only [Bool.false_eq_true, if_false]
    exact wpAny_pure ⟨⟨rfl, rfl⟩, fun y hy => al y (List.mem_cons_of_mem _ hy)⟩
  · rintro ⟨r1, r2⟩ s1 ⟨⟨e1, rfl⟩, _⟩
    cases e1
    exact wpAny_pure q
/-- whatever it says: the set may be plain no more -/
theorem byX {k : List Str} {b : Addr} {Q : Bool → Shared → Prop}
    (hk : IsX P w s.heap k b) (q : ∀ v, Q v s) :
    wpAny (model P w) A (hashByValue 8 (.ref b)) Q E s := by
  have ty := hk.typeIs
  obtain ⟨o, its, n, ho, hc, hd, hi⟩ := hk
  unfold hashByValue
  refine wpAny_bind (wpAny_specialOf ty F.slot_tuple_hash.lookup ?_)
  refine wpAny_bind (wpAny_seqItems ho hd ?_)
  refine wpAny_bind ?_
  simp only [Option.getD_some]
  rw [← Array.forIn_toList]
  refine wpAny_forIn_list _ (fun l r s1 => (s1 = s ∧ r.1 = none) ∧ ∀ u ∈ l, ∃ x t, u = Value.str x t) _
    ?_ ?_ _ _ ⟨⟨rfl, rfl⟩, texts_in hi⟩
  · rintro u l r s1 ⟨⟨rfl, e1⟩, al⟩
    obtain ⟨x, t, rfl⟩ := al u List.mem_cons_self
    refine wpAny_bind (m := pure false) (wpAny_pure ?_)
    simp only [Bool.not_false, if_true]
    exact wpAny_pure (wpAny_pure (q false))
  · rintro ⟨r1, r2⟩ s1 ⟨⟨rfl, e1⟩, _⟩
    cases e1
    exact wpAny_pure (q true)
theorem unseenX {k : List Str} {b : Addr} {ys : List Value} {Q : Bool → Shared → Prop}
    (hk : IsX P w s.heap k b) (hy : ∀ y ∈ ys, ∃ k' c, y = Value.ref c ∧ IsX P w s.heap k' c) (q : Q false s) :
    wpAny (model P w) A (searchCouldBeSeen (.ref b) ys) Q E s := by
  unfold searchCouldBeSeen
  refine wpAny_bind ?_
  refine wpAny_forIn_list _ (fun l r s1 => (r.1 = none ∧ s1 = s) ∧ ∀ y ∈ l, ∃ k' c, y = Value.ref c ∧ IsX P w s.heap k' c) _
    ?_ ?_ _ _ ⟨⟨rfl, rfl⟩, hy⟩
  · rintro y l r s1 ⟨⟨e1, rfl⟩, al⟩
    obtain ⟨k2, c, rfl, hc⟩ := al y List.mem_cons_self
    have al' : ∀ y ∈ l, ∃ k' c, y = Value.ref c ∧ IsX P w s1.heap k' c := fun u hu => al u (List.mem_cons_of_mem _ hu)
    dsimp only
    by_cases he : (b == c || (carriedByValue (.ref b) && carriedByValue (.ref c))) = true
    · exact wp_if_pos he (wpAny_pure ⟨⟨rfl, rfl⟩, al'⟩)
    · refine wp_if_neg he ?_
      refine wpAny_bind (wpAny_eqIsQuiet_tuple hk ?_)
      simp only [Bool.not_true, Bool.false_eq_true, if_false]
      refine wpAny_bind (wpAny_eqIsQuiet_tuple hc ?_)
      simp only [Bool.not_true, Bool.false_eq_true, if_false]
      refine wpAny_bind (quietX hk ?_)
      simp only [Bool.false_eq_true, if_false]
      refine wpAny_bind (quietX hc ?_)
      simp only [Bool.false_eq_true, if_false]
      exact wpAny_pure ⟨⟨rfl, rfl⟩, al'⟩
  · rintro ⟨r1, r2⟩ s1 ⟨⟨e1, rfl⟩, _⟩
    cases e1
    exact wpAny_pure q

/-! ### the set -/
def rowX (P : Program) (w : World) (q : Ent) : Int × Value := (hX P w q.2, Value.ref q.1)
structure SetX (P : Program) (w : World) (h : Heap) (a : Addr) (L : List Ent) (es : Array (Int × Value)) (ep : Nat) (t : SetTable) : Prop where
  obj : ∃ o : Obj, h.get? a = some o ∧ o.ExactSet ∧ o.data = .set es ep t
  row : es.toList = L.map (rowX P w)
  tab : TabOk t (L.map fun q => hX P w q.2)
  one : (L.map Prod.snd).Nodup
  key : ∀ q ∈ L, IsX P w h q.2 q.1
  way : w.params.followText "set-order" = true ∨ t.led = true
  room : L.length * 5 < t.mask * 3
  few : L.length < 64
variable {a : Addr} {L : List Ent} {es : Array (Int × Value)} {ep : Nat} {t : SetTable}
theorem SetX.sz (R : SetX P w s.heap a L es ep t) : es.size = L.length := by
  rw [← Array.length_toList, R.row, List.length_map]
theorem SetX.pl (R : SetX P w s.heap a L es ep t) : t.place.size = L.length := by
  rw [R.tab.sz, List.length_map]
theorem SetX.fit (R : SetX P w s.heap a L es ep t) : t.fits es.size = true := by
  have h1 := R.pl
  have h2 := R.sz
  have h3 := R.few
  have h4 := R.room
  simp only [SetTable.fits, SetTable.fill, R.tab.dm, Bool.and_eq_true, beq_iff_eq, decide_eq_true_eq]
  refine ⟨by omega, ?_⟩
  show t.place.size + 0 ≤ t.mask
  omega
theorem SetX.nth (R : SetX P w s.heap a L es ep t) {i : Nat} {q : Ent} (e : L[i]? = some q) : es[i]? = some (rowX P w q) := by
  rw [← Array.getElem?_toList, R.row, List.getElem?_map, e] <;> rfl
theorem SetX.kept (R : SetX P w s.heap a L es ep t) : ¬ t.gaveWay = true := by
  unfold SetTable.gaveWay
  rw [mask_odd R.tab.mok]
  decide
/-- the probe at the c-th step of the way -/
def stepX (m : Nat) (h : Int) (c : Nat) : SetTable.Probe := L2.nth m (runAt m (SetTable.bits h % (m + 1)) (SetTable.bits h)) c
theorem stepX_j (m : Nat) (h : Int) (c : Nat) : (stepX m h c).j = L2.way m h c := rfl
theorem stepX_add (m : Nat) (h : Int) (c n : Nat) : L2.nth m (stepX m h c) n = stepX m h (c + n) := (nth_add m c _ n).symm
theorem adv_dummy (m : Nat) (p : SetTable.Probe) : (adv m p).dummy = p.dummy := by
  unfold adv
  split <;> rfl
theorem nth_dummy (m : Nat) : ∀ (n : Nat) (p : SetTable.Probe), (L2.nth m p n).dummy = p.dummy
  | 0, p => rfl
  | n + 1, p => (nth_dummy m n (adv m p)).trans (adv_dummy m p)
theorem walkX (R : SetX P w s.heap a L es ep t) {x : Addr} {k : List Str} (hx : IsX P w s.heap k x) (hu : A.units < cLine) {N : Nat} (lim : N < 10 * SetTable.turns t.mask)
    (e0 : L2.way t.mask (hX P w k) N ∉ t.place.toList) (e1 : ∀ c, c < N → L2.way t.mask (hX P w k) c ∈ t.place.toList) {Q : SetFound → Shared → Prop}
    (yes : k ∈ L.map Prod.snd → Q (.there none) s) (no : k ∉ L.map Prod.snd → Q (.free (L2.way t.mask (hX P w k) N) false) s) (f : Nat) :
    ∀ (c : Nat) (st : Option SetTable.Probe), st.getD (t.probeStart (hX P w k)) = stepX t.mask (hX P w k) c → c ≤ N → N < c + f →
      (∀ (i : Nat) (q : Ent), L[i]? = some q → q.2 = k → ∃ d, c ≤ d ∧ d < N ∧ t.place.toList[i]? = some (L2.way t.mask (hX P w k) d)) →
      wpAny (model P w) A (setSearchFrom a (.ref x) (hX P w k) true f st) Q E s := by
  induction f with
  | zero => intro c st _ h1 h2; omega
  | succ f ih =>
    intro c st hst hc hf hre
    obtain ⟨o, ho, hex, hd⟩ := R.obj
    rw [setSearchFrom_succ]
    refine wpAny_bind (wpAny_setState_of ho hd R.fit ?_)
    dsimp only
    refine wp_if_neg R.kept ?_
    try refine wpAny_bind (wpAny_pure ?_)
    have at_ : ∀ n, (L2.nth t.mask (stepX t.mask (hX P w k) c) n).j = L2.way t.mask (hX P w k) (c + n) := fun n => by rw [stepX_add]; rfl
    have row_h : ∀ (i : Nat) (q : Ent), L[i]? = some q → (es[i]?.map (·.1)).getD 0 = hX P w q.2 := fun i q e => by
      rw [R.nth e] <;> rfl
    have sp := go_spec t R.tab.ris R.tab.dm (fun i => (es[i]?.map (·.1)).getD 0) (hX P w k) (10 * SetTable.turns t.mask) (N - c) (stepX t.mask (hX P w k) c) (nth_dummy _ _ _) (by omega)
      (fun n hn => by rw [at_]; exact e1 _ (by omega)) (by rw [at_, show c + (N - c) = N by omega]; exact e0)
    have pr : t.probe (fun i => (es[i]?.map (·.1)).getD 0) (hX P w k) (st.getD (t.probeStart (hX P w k))) = SetTable.probe.go t (fun i => (es[i]?.map (·.1)).getD 0) (hX P w k) (10 * SetTable.turns t.mask) (stepX t.mask (hX P w k) c) := by
      rw [hst] <;> rfl
    rcases sp with ⟨n, i, hn, hi, hh, hno, hgo⟩ | ⟨hno, hgo⟩
    · rw [pr, hgo]
      dsimp only
      rw [at_] at hi ⊢
      have hil : i < L.length := by
        have := (List.getElem?_eq_some_iff.mp hi).1
        have h2 := R.pl
        rw [Array.length_toList] at this
        omega
      obtain ⟨q, hq⟩ : ∃ q, L[i]? = some q := ⟨_, List.getElem?_eq_getElem hil⟩
      have mq : q ∈ L := List.mem_of_getElem? hq
      have go_on : wpAny (model P w) A (searchRest a (.ref x) (hX P w k) true f es t (L2.way t.mask (hX P w k) (c + n)) i (L2.nth t.mask (stepX t.mask (hX P w k) c) (n + 1))) Q E s := by
        unfold searchRest
        rw [R.nth hq]
        dsimp only [rowX]
        refine wpAny_bind (wpAny_holding (wpAny_eqBool_tuple hu (R.key q mq) hx ?_))
        refine wpAny_bind (wpAny_setState_of ho hd R.fit ?_)
        dsimp only
        by_cases ek : q.2 = k
        · refine wp_if_pos (by simp [ek]) (wpAny_pure (yes ?_))
          exact ek ▸ List.mem_map_of_mem mq
        · refine wp_if_neg (by simp [ek]) ?_
          try refine wpAny_bind (wpAny_pure ?_)
          rw [sameMem]
          have live := slot_live R.tab.ris hi
          simp only [if_true, live, R.nth hq, rowX]
          refine wpAny_bind (wpAny_isSame_ref_self (wpAny_bind (wpAny_pure ?_)))
          simp only [if_true]
          refine wp_if_neg (by simp [ek]) (ih (c + (n + 1)) _ ?_ (by omega) (by omega) fun j r hj hr => ?_)
          · rw [stepX_add]; rfl
          · obtain ⟨d, d1, d2, d3⟩ := hre j r hj hr
            refine ⟨d, ?_, d2, d3⟩
            rcases Nat.lt_trichotomy d (c + n) with z | z | z
            · refine absurd ((row_h j r hj).trans (by rw [hr])) (hno (d - c) j (by omega) ?_)
              rw [at_, show c + (d - c) = d by omega]
              exact d3
            · rw [z] at d3
              have l2 := slot_live R.tab.ris d3
              rw [live] at l2
              injection l2 with l2
              subst l2
              rw [hq] at hj
              cases hj
              exact absurd hr ek
            · omega
      by_cases hl : t.led = true
      · refine wp_if_neg (by simp [hl]) ?_
        try refine wpAny_bind (wpAny_pure ?_)
        exact go_on
      · refine wp_if_pos (by simp [hl]) ?_
        refine wpAny_bind (unseenX hx (fun y hy => ?_) ?_)
        · obtain ⟨e, he, rfl⟩ := List.mem_map.mp hy
          have he1 : e ∈ es.toList := by
            have := (Array.mem_filter.mp (Array.mem_def.mpr he)).1
            exact Array.mem_def.mp this
          rw [R.row] at he1
          obtain ⟨q2, mq2, rfl⟩ := List.mem_map.mp he1
          exact ⟨q2.2, q2.1, rfl, R.key q2 mq2⟩
        · refine wp_if_neg (by decide) ?_
          try refine wpAny_bind (wpAny_pure ?_)
          exact go_on
    · rw [pr, hgo]
      dsimp only
      rw [at_, show c + (N - c) = N by omega]
      refine wpAny_pure (no fun hm => ?_)
      obtain ⟨q, mq, ek⟩ := List.mem_map.mp hm
      obtain ⟨i, hi⟩ := List.mem_iff_getElem?.mp mq
      obtain ⟨d, d1, d2, d3⟩ := hre i q hi ek
      refine hno (d - c) i (by omega) ?_ ((row_h i q hi).trans (by rw [ek]))
      rw [at_, show c + (d - c) = d by omega]
      exact d3
theorem findX (R : SetX P w s.heap a L es ep t) {x : Addr} {k : List Str} (hx : IsX P w s.heap k x) (hu : A.units < cLine) {Q : SetFound → Shared → Prop}
    (yes : k ∈ L.map Prod.snd → Q (.there none) s)
    (no : ∀ N, k ∉ L.map Prod.snd → L2.way t.mask (hX P w k) N ∉ t.place.toList → (∀ c, c < N → L2.way t.mask (hX P w k) c ∈ t.place.toList) → Q (.free (L2.way t.mask (hX P w k) N) false) s) :
    wpAny (model P w) A (setSearch a (.ref x) (hX P w k) true) Q E s := by
  obtain ⟨N, lim, e0, e1⟩ := R.tab.first (by rw [List.length_map]; have := R.room; omega) (hX P w k)
  have no' := no N
  unfold setSearch
  have big : 10 * SetTable.turns t.mask ≤ 100000 := by
    rcases R.tab.mok with e | e | e <;> rw [e] <;> decide
  refine walkX R hx hu lim e0 e1 yes (fun hn => no' hn e0 e1) 100000 0 none ?_ (Nat.zero_le _) (by omega) fun i q hq ek => ?_
  · show t.probeStart _ = _
    rw [start_run] <;> rfl
  · have hi : (L.map fun q => hX P w q.2)[i]? = some (hX P w k) := by rw [List.getElem?_map, hq, ← ek] <;> rfl
    have hl : i < t.place.toList.length := by
      have h1 := (List.getElem?_eq_some_iff.mp hq).1
      have h2 := R.pl
      rw [Array.length_toList]
      omega
    obtain ⟨c, c1, c2⟩ := R.tab.before (K := N) e0 hi (List.getElem?_eq_getElem hl)
    exact ⟨c, Nat.zero_le _, c1, by rw [List.getElem?_eq_getElem hl, c2]⟩

/-! ### a tuple comes in -/
theorem IsX.past {h h' : Heap} {k : List Str} {a b : Addr} {o : Obj} {es : Array (Int × Value)} {ep : Nat} {t : SetTable} (hb : IsX P w h k b) (ho : h.get? a = some o) (hd : o.data = .set es ep t) (sb : Heap.SameBut a h h') : IsX P w h' k b := by
  obtain ⟨o2, its, n, h1, h2, h3, h4⟩ := hb
  have ne : b ≠ a := fun e => by
    rw [e, ho] at h1
    cases h1
    rw [hd] at h3
    cases h3
  exact ⟨o2, its, n, (sb.2 b ne).trans h1, h2, h3, h4⟩
theorem IsX.up {h h' : Heap} {k : List Str} {b : Addr} (hb : IsX P w h k b) (up : ∀ c u, h.get? c = some u → h'.get? c = some u) : IsX P w h' k b := by
  obtain ⟨o2, its, n, h1, r⟩ := hb
  exact ⟨o2, its, n, up b o2 h1, r⟩
theorem cut_perm {α : Type} (L : List α) (p : Nat) (y : α) : (L.take p ++ y :: L.drop p).Perm (y :: L) :=
  List.perm_middle.trans (by rw [List.take_append_drop])
def markX (bv : Bool) (t : SetTable) : SetTable := if bv = true then t else { t with plain := false }
theorem markX_facts (bv : Bool) {t : SetTable} {hs : List Int} (T : TabOk t hs) : TabOk (markX bv t) hs ∧ (markX bv t).mask = t.mask ∧ (markX bv t).led = t.led ∧ (markX bv t).fill = t.fill := by
  cases bv
  · exact ⟨⟨T.ris, T.dm, T.sz, T.mok, T.bd, T.reach⟩, rfl, rfl, rfl⟩
  · exact ⟨T, rfl, rfl, rfl⟩
/-- what a table's order makes of the entries -/
theorem order_ents (L : List Ent) (es : Array (Int × Value)) (order : Array Nat) (hr : es.toList = L.map (rowX P w)) (hp : order.toList.Perm (List.range L.length)) :
    ∃ Lo : List Ent, (order.filterMap (es[·]?)).toList = Lo.map (rowX P w) ∧ Lo.Perm L ∧ (Lo.map fun q => hX P w q.2) = order.toList.map fun i => (es.map (·.1)).getD i 0 := by
  have hsz : es.size = L.length := by rw [← Array.length_toList, hr, List.length_map]
  have ent : ∀ i (h : i < L.length), es[i]? = some (rowX P w L[i]) := fun i h => by
    rw [← Array.getElem?_toList, hr, List.getElem?_map, List.getElem?_eq_getElem h] <;> rfl
  have key : ∀ l : List Nat, (∀ i ∈ l, i < L.length) → ∃ Lo : List Ent, l.filterMap (fun i => es[i]?) = Lo.map (rowX P w) ∧ Lo = l.filterMap (fun i => L[i]?) ∧ (Lo.map fun q => hX P w q.2) = l.map fun i => (es.map (·.1)).getD i 0 := by
    intro l
    induction l with
    | nil => exact fun _ => ⟨[], rfl, rfl, rfl⟩
    | cons i l ih =>
      intro hl
      have hi := hl i (.head _)
      obtain ⟨Lo, e1, e2, e3⟩ := ih fun j hj => hl j (.tail _ hj)
      have e5 : (es.map (·.1))[i]? = some (hX P w (L[i]).2) := by rw [Array.getElem?_map, ent i hi] <;> rfl
      refine ⟨L[i] :: Lo, ?_, ?_, ?_⟩
      · rw [List.filterMap_cons_some (ent i hi), e1] <;> rfl
      · rw [List.filterMap_cons_some (List.getElem?_eq_getElem hi), e2]
      · rw [List.map_cons, List.map_cons, e3]
        have e4 : (es.map (·.1)).getD i 0 = hX P w (L[i]).2 := by simp [Array.getD_eq_getD_getElem?, e5]
        rw [e4]
  obtain ⟨Lo, e1, e2, e3⟩ := key order.toList fun i hi => List.mem_range.mp (hp.mem_iff.mp hi)
  refine ⟨Lo, by first | (rw [Array.toList_filterMap]; exact e1) | simpa using e1, ?_, e3⟩
  have all : ∀ n, n ≤ L.length → (List.range n).filterMap (fun i => L[i]?) = L.take n := by
    intro n
    induction n with
    | zero => exact fun _ => rfl
    | succ n ih =>
      intro hn
      have hlt : n < L.length := hn
      rw [List.range_succ, List.filterMap_append, ih (Nat.le_of_lt hlt), List.take_succ, List.getElem?_eq_getElem hlt, List.filterMap_cons_some (List.getElem?_eq_getElem hlt)] <;> rfl
  have h1 : Lo.Perm ((List.range L.length).filterMap fun i => L[i]?) := e2 ▸ hp.filterMap _
  rwa [all L.length (Nat.le_refl _), List.take_length] at h1
/-- the table is laid anew, larger -/
theorem relayX {o : Obj} (ho : s.heap.get? a = some o) (hex : o.ExactSet) (hd : o.data = .set es ep t) (row : es.toList = L.map (rowX P w)) (hsz : t.place.size = (L.map fun q => hX P w q.2).length) (hdm : t.dummies = #[]) (hfl : es.size ≤ t.mask)
    (one : (L.map Prod.snd).Nodup) (key : ∀ q ∈ L, IsX P w s.heap q.2 q.1) (way : w.params.followText "set-order" = true ∨ t.led = true) (few : L.length < 64) {wanted M : Nat}
    (hw : SetTable.sizeAbove wanted - 1 = M) (hM : MaskOk M) (hw2 : SetTable.sizeAbove wanted ≤ 128) (hn : L.length * 5 < M * 3) {Q : Unit → Shared → Prop}
    (fin : ∀ h' L' es' ep' t', Heap.SameBut a s.heap h' → SetX P w h' a L' es' ep' t' → L'.Perm L → Q () { s with heap := h' }) : wpAny (model P w) A (setRelay a wanted) Q E s := by
  have hsl : es.size = L.length := by rw [← Array.length_toList, row, List.length_map]
  rw [List.length_map] at hsz
  have fits : t.fits es.size = true := by
    simp only [SetTable.fits, SetTable.fill, hdm, Bool.and_eq_true, beq_iff_eq, decide_eq_true_eq]
    refine ⟨by omega, ?_⟩
    show t.place.size + 0 ≤ t.mask
    omega
  obtain ⟨t', order, e, hp, T, em, el, _, _⟩ := relaid_ok t (hs := es.map (·.1)) (wanted := wanted) hw hM (by rw [Array.size_map, hsl]; omega)
  rw [Array.size_map, hsl] at hp
  obtain ⟨Lo, r1, r2, r3⟩ := order_ents L es order row hp
  rw [← r3] at T
  have hs2 : (order.filterMap (es[·]?)).size = es.size := by rw [← Array.length_toList, r1, List.length_map, r2.length_eq, hsl]
  rw [setRelay_eq]
  refine wpAny_bind (wpAny_setState_of ho hd fits ?_)
  dsimp only
  refine wp_if_neg (by rw [sizeLine_eq]; omega) ?_
  try refine wpAny_bind (wpAny_pure ?_)
  rw [e]
  dsimp only
  refine wpAny_bind ?_
  refine wp_if_neg (by rw [hs2]; simp) ?_
  try refine wpAny_bind (wpAny_pure ?_)
  refine wpAny_pure ?_
  dsimp only
  refine wpAny_storeSet_of ho hd ?_ (by rw [hs2, hsl, sizeLine_eq]; omega)
  have sb : Heap.SameBut a s.heap (s.heap.update a (Obj.putSet (order.filterMap (es[·]?)) t')) := Heap.SameBut.update ..
  refine fin _ Lo (order.filterMap (es[·]?)) (ep + 1) t' sb ⟨⟨_, store_at ho hd, ⟨hex.1, hex.2.1, hex.2.2⟩, rfl⟩, r1, T, (r2.map Prod.snd).nodup_iff.mpr one, fun q hq => (key q (r2.mem_iff.mp hq)).past ho hd sb, by rw [el]; exact way, ?_, by rw [r2.length_eq]; exact few⟩ r2
  rw [r2.length_eq, em]
  exact hn
theorem addX (R : SetX P w s.heap a L es ep t) {x : Addr} {k : List Str} (hx : IsX P w s.heap k x) (hu : A.units < cLine) (h3 : L.length + 1 < 64) {Q : Bool → Shared → Prop}
    (old : k ∈ L.map Prod.snd → Q false s)
    (new : k ∉ L.map Prod.snd → ∀ h1 L1 es1 ep1 t1, Heap.SameBut a s.heap h1 → SetX P w h1 a L1 es1 ep1 t1 → L1.Perm ((x, k) :: L) → Q true { s with heap := h1 }) :
    wpAny (model P w) A (setAddHashed a (.ref x) (hX P w k)) Q E s := by
  obtain ⟨o, ho, hex, hd⟩ := R.obj
  have hsz := R.sz
  unfold setAddHashed
  refine wpAny_holding ?_
  rw [show 100000 = 99999 + 1 from rfl, setAddHashedIn_succ]
  refine wpAny_bind (wpAny_setState_of ho hd R.fit ?_)
  dsimp only
  refine wp_if_neg (by simp [byScan, Value.scannable]) ?_
  try refine wpAny_bind (wpAny_pure ?_)
  refine wpAny_bind (findX R hx hu (fun hm => wpAny_pure (old hm)) fun N hm e0 e1 => ?_)
  dsimp only
  refine wpAny_bind (wpAny_setState_of ho hd R.fit ?_)
  dsimp only
  obtain ⟨q1, q2, q3, q4, q5, q6, q7, q8, q9⟩ := R.tab.put e0 e1
  generalize t.put (L2.way t.mask (hX P w k) N) = pt at q1 q3 q4 q5 q9 ⊢
  generalize SetTable.below t.place (L2.way t.mask (hX P w k) N) = p at q1 q2 q3
  obtain ⟨t1, p1⟩ := pt
  dsimp only at q1 q3 q4 q5 q9 ⊢
  subst q1
  have rest : ∀ bv : Bool, wpAny (model P w) A (do
      storeSet a (SetTable.insertAt es p1 (hX P w k, Value.ref x)) (markX bv t1)
      if !false && (markX bv t1).tooFull then setRelay a (SetTable.grown (es.size + 1))
      return true) Q E s := fun bv => by
    obtain ⟨f1, f2, f3, f4⟩ := markX_facts bv q3
    generalize markX bv t1 = t2 at f1 f2 f3 f4 ⊢
    have pm := cut_perm L p1 (x, k)
    have r1 : (SetTable.insertAt es p1 (hX P w k, Value.ref x)).toList = (L.take p1 ++ (x, k) :: L.drop p1).map (rowX P w) := by
      rw [SetTable.toList_insertAt, R.row, List.map_append, List.map_cons, List.map_take, List.map_drop] <;> rfl
    have r2 : (L.take p1 ++ (x, k) :: L.drop p1).map (fun q => hX P w q.2) = (L.map fun q => hX P w q.2).take p1 ++ hX P w k :: (L.map fun q => hX P w q.2).drop p1 := by
      rw [List.map_append, List.map_cons, List.map_take, List.map_drop]
    rw [← r2] at f1
    generalize SetTable.insertAt es p1 (hX P w k, Value.ref x) = es1 at r1 ⊢
    generalize L.take p1 ++ (x, k) :: L.drop p1 = L1 at pm r1 f1
    have ln : L1.length = L.length + 1 := pm.length_eq
    have sz1 : es1.size = L.length + 1 := by rw [← Array.length_toList, r1, List.length_map, ln]
    refine wpAny_bind (wpAny_storeSet_of ho hd ?_ (by rw [sz1, sizeLine_eq]; omega))
    have sb : Heap.SameBut a s.heap (s.heap.update a (Obj.putSet es1 t2)) := Heap.SameBut.update ..
    have ho1 := store_at (es' := es1) (t' := t2) ho hd
    generalize s.heap.update a (Obj.putSet es1 t2) = h1 at sb ho1 ⊢
    have one1 : (L1.map Prod.snd).Nodup := (pm.map Prod.snd).nodup_iff.mpr (List.nodup_cons.mpr ⟨hm, R.one⟩)
    have key1 : ∀ q ∈ L1, IsX P w h1 q.2 q.1 := fun q hq => by
      rcases List.mem_cons.mp (pm.mem_iff.mp hq) with e | hq
      · subst e
        exact hx.past ho hd sb
      · exact (R.key q hq).past ho hd sb
    have way1 : w.params.followText "set-order" = true ∨ t2.led = true := by
      rw [f3, q5]
      exact R.way
    have full_iff : t2.tooFull = decide ((L.length + 1) * 5 ≥ t2.mask * 3) := by
      unfold SetTable.tooFull
      rw [f4, q9, List.length_map]
    by_cases hf : t2.tooFull = true
    · first
        | (refine wpAny_bind ?_; refine wp_if_pos (by simp [hf]) ?_)
        | (refine wp_if_pos (by simp [hf]) ?_; refine wpAny_bind ?_)
      have full : (L.length + 1) * 5 ≥ t2.mask * 3 := by
        rw [full_iff] at hf
        exact of_decide_eq_true hf
      rw [hsz]
      have sizes : (t.mask = 7 ∧ L.length = 4) ∨ (t.mask = 31 ∧ L.length = 18) := by
        have room := R.room
        rw [f2, q4] at full
        rcases R.tab.mok with e | e | e
        · rw [e] at full room; exact .inl ⟨e, by omega⟩
        · rw [e] at full room; exact .inr ⟨e, by omega⟩
        · rw [e] at full room; exfalso; omega
      have go : ∀ M, SetTable.sizeAbove (SetTable.grown (L.length + 1)) - 1 = M → MaskOk M → SetTable.sizeAbove (SetTable.grown (L.length + 1)) ≤ 128 → (L.length + 1) * 5 < M * 3 →
          wpAny (model P w) A (setRelay a (SetTable.grown (L.length + 1))) (fun _ s' => wpAny (model P w) A (pure true) Q E s') E { s with heap := h1 } := fun M c1 c2 c3 c4 => by
        refine relayX (s := { s with heap := h1 }) ho1 ⟨hex.1, hex.2.1, hex.2.2⟩ rfl r1 f1.sz f1.dm (by rw [sz1, f2, q4]; rcases sizes with ⟨e, e2⟩ | ⟨e, e2⟩ <;> omega) one1 key1 way1 (by rw [ln]; exact h3) c1 c2 c3 (by rw [ln]; exact c4) ?_
        intro h2 L2 es2 ep2 t3 sb2 R2 pm2
        exact wpAny_pure (new hm h2 L2 es2 ep2 t3 (sb.trans sb2) R2 (pm2.trans pm))
      rcases sizes with ⟨_, e2⟩ | ⟨_, e2⟩
      · exact go 31 (by rw [e2, size_20]) (.inr (.inl rfl)) (by rw [e2, size_20]; decide) (by omega)
      · exact go 127 (by rw [e2, size_76]) (.inr (.inr rfl)) (by rw [e2, size_76]; decide) (by omega)
    · first
        | refine wp_if_neg (by simp [hf]) ?_
        | (refine wpAny_bind ?_; refine wp_if_neg (by simp [hf]) ?_; refine wpAny_pure ?_)
      refine wpAny_pure (new hm h1 L1 es1 (ep + 1) t2 sb ⟨⟨_, ho1, ⟨hex.1, hex.2.1, hex.2.2⟩, rfl⟩, r1, f1, one1, key1, way1, ?_, by rw [ln]; exact h3⟩ pm)
      rw [full_iff, decide_eq_true_eq] at hf
      rw [ln]
      omega
  by_cases hp : t1.plain = true
  · first
      | (refine wpAny_bind ?_
         refine wp_if_pos hp (byX hx fun bv => ?_)
         exact rest bv)
      | exact wp_if_pos hp (wpAny_bind (byX hx fun bv => rest bv))
  · first
      | (refine wpAny_bind ?_
         refine wp_if_neg hp (wpAny_pure ?_)
         exact rest true)
      | exact wp_if_neg hp (rest true)

/-! ### set(xs) -/
/-- the set has what the first i items are -/
structure Sofar (ks : List Ent) (i : Nat) (L : List Ent) : Prop where
  from_ : ∀ q ∈ L, q ∈ ks.take i
  whole : ∀ q ∈ ks.take i, q.2 ∈ L.map Prod.snd
  small : L.length ≤ i
theorem take_one {α : Type} {l : List α} {i : Nat} {y : α} (e : l[i]? = some y) : l.take (i + 1) = l.take i ++ [y] := by
  rw [List.take_succ, e] <;> rfl
theorem Sofar.twice {ks L : List Ent} {i : Nat} {y : Ent} (g : Sofar ks i L) (e : ks[i]? = some y) (m : y.2 ∈ L.map Prod.snd) : Sofar ks (i + 1) L where
  from_ := fun q hq => by
    rw [take_one e]
    exact List.mem_append.mpr (.inl (g.from_ q hq))
  whole := fun q hq => by
    rw [take_one e, List.mem_append, List.mem_singleton] at hq
    rcases hq with hq | rfl
    · exact g.whole q hq
    · exact m
  small := by have := g.small; omega
theorem Sofar.next {ks L L1 : List Ent} {i : Nat} {y : Ent} (g : Sofar ks i L) (e : ks[i]? = some y) (pm : L1.Perm (y :: L)) : Sofar ks (i + 1) L1 where
  from_ := fun q hq => by
    rw [take_one e, List.mem_append, List.mem_singleton]
    rcases List.mem_cons.mp (pm.mem_iff.mp hq) with hq | hq
    · exact .inr hq
    · exact .inl (g.from_ q hq)
  whole := fun q hq => by
    rw [(pm.map Prod.snd).mem_iff, List.map_cons, List.mem_cons]
    rw [take_one e, List.mem_append, List.mem_singleton] at hq
    rcases hq with hq | rfl
    · exact .inr (g.whole q hq)
    · exact .inl rfl
  small := by
    have := g.small
    rw [pm.length_eq, List.length_cons]
    omega
theorem SetX.stays {h h' : Heap} {a : Addr} {L : List Ent} {es : Array (Int × Value)} {ep : Nat} {t : SetTable} (R : SetX P w h a L es ep t) (ha : ∀ u, h.get? a = some u → h'.get? a = some u) (hk : ∀ q ∈ L, IsX P w h' q.2 q.1) : SetX P w h' a L es ep t := by
  obtain ⟨o, ho, r⟩ := R.obj
  exact ⟨⟨o, ha o ho, r⟩, R.row, R.tab, R.one, hk, R.way, R.room, R.few⟩
theorem loopX {I : Addr} {fp wr : List Addr} {G : Array GenState → Array GenState → Prop} {n : Nat} {Pv : Nat → Value → Prop} {St : Nat → Shared → Prop} {Rs : Result → Shared → Prop}
    (W : WalksS P w A.in1 I fp wr G n Pv St) (S : Addr) (nS : S ∉ fp) (ks : List Ent) (hn : n = ks.length) (h4 : ks.length < 64) (hv : ∀ i v, Pv i v → ∃ q, ks[i]? = some q ∧ v = .ref q.1)
    (g0 : Heap) (hk : ∀ q ∈ ks, IsX P w g0 q.2 q.1) (sS : g0.get? S = none) (sw : ∀ b ∈ wr, g0.get? b = none) (hu : A.in1.units < cLine) (m : Nat) :
    ∀ (i : Nat) (s : Shared), n = i + m → St i s → (∀ c u, g0.get? c = some u → s.heap.get? c = some u) → (∃ L es ep t, SetX P w s.heap S L es ep t ∧ Sofar ks i L) →
      (∀ s1 L es ep t, Moved (S :: wr) G s s1 → SetX P w s1.heap S L es ep t → Sofar ks n L → (∀ c u, g0.get? c = some u → s1.heap.get? c = some u) → Rs (.ok (.ret .none)) s1) →
      codeAny (model P w) A (.builtin "set.update.loop" ⟨[.ref S, .ref I], []⟩) Rs s := by
  have nw : S ∉ wr := fun h => nS (W.sub S h)
  have wide : ∀ b ∈ wr, b ∈ S :: wr := fun b hb => .tail _ hb
  have carry : ∀ {s s1 : Shared}, Moved wr G s s1 → (∀ c u, g0.get? c = some u → s.heap.get? c = some u) → ∀ c u, g0.get? c = some u → s1.heap.get? c = some u := fun mv up c u e =>
    mv.heap c u (fun hb => by rw [sw c hb] at e; cases e) (up c u e)
  have whose : ∀ {i : Nat} {L : List Ent}, Sofar ks i L → ∀ q ∈ L, q ∈ ks := fun g q hq => List.mem_of_mem_take (g.from_ q hq)
  induction m with
  | zero =>
    rintro i s hi st up ⟨L, es, ep, t, hS, g⟩ fin
    obtain rfl : n = i := hi
    refine codeAny_builtin F.entry_set_update_loop ?_
    rw [Around.under_plainId F.plain_set_update_loop _]
    refine wpAny_bind (W.done s _ _ st fun s1 mv => ?_)
    have up1 := carry mv up
    exact wpAny_pure (fin s1 L es ep t (mv.mono wide) (hS.stays (fun u e => mv.heap S u nw e) fun q hq => (hk q (whose g q hq)).up up1) g up1)
  | succ m ih =>
    rintro i s hi st up ⟨L, es, ep, t, hS, g⟩ fin
    refine codeAny_builtin F.entry_set_update_loop ?_
    rw [Around.under_plainId F.plain_set_update_loop _]
    refine wpAny_bind (W.item i s _ _ (by omega) st fun v s1 pv st1 mv => ?_)
    obtain ⟨q, hq, rfl⟩ := hv i v pv
    have up1 := carry mv up
    have R1 : SetX P w s1.heap S L es ep t := hS.stays (fun u e => mv.heap S u nw e) fun r hr => (hk r (whose g r hr)).up up1
    have kq : IsX P w s1.heap q.2 q.1 := (hk q (List.mem_of_getElem? hq)).up up1
    have small := g.small
    have step : ∀ (h2 : Heap) (tk : Nat) (L2 : List Ent) es2 ep2 t2, s1.toks ≤ tk → Heap.SameBut S s1.heap h2 → SetX P w h2 S L2 es2 ep2 t2 → Sofar ks (i + 1) L2 →
        codeAny (model P w) A (.builtin "set.update.loop" ⟨[.ref S, .ref I], []⟩) Rs { s1 with heap := h2, toks := tk } := fun h2 tk L2 es2 ep2 t2 htk sb R2 g2 => by
      have off : ∀ b, b ≠ S → ∀ u, s1.heap.get? b = some u → h2.get? b = some u := fun b hb u e => (sb.2 b hb).trans e
      refine ih (i + 1) _ (by omega) (W.frame _ s1 _ _ st1 htk fun b hb u e => off b (fun z => nS (z ▸ hb)) u e) (fun c u e => off c (fun z => by rw [z, sS] at e; cases e) u (up1 c u e)) ⟨L2, es2, ep2, t2, R2, g2⟩ fun s3 L3 es3 ep3 t3 mv3 R3 g3 up3 => ?_
      exact fin s3 L3 es3 ep3 t3 (Moved.trans W.gtrans ((mv.mono wide).then_heap htk fun b u hb e => off b (fun z => hb (z ▸ .head _)) u e) mv3) R3 g3 up3
    refine wpAny_bind (wpAny_holding ?_)
    unfold setAdd
    refine wpAny_holding (wpAny_bind (wpAny_pyHash_tuple hu kq ?_))
    refine addX (s := { s1 with toks := s1.toks + (q.2.length + 1) }) R1 kq hu (by omega) (fun hm => ?_) fun hm h1 L1 es1 ep1 t1 sb R2 pm => ?_
    · exact wpAny_pure ⟨plainId_quiet F.plain_set_update_loop _, step s1.heap _ L es ep t (Nat.le_add_right _ _) (Heap.SameBut.refl S s1.heap) R1 (g.twice hq hm)⟩
    · exact wpAny_pure ⟨plainId_quiet F.plain_set_update_loop _, step h1 _ L1 es1 ep1 t1 (Nat.le_add_right _ _) sb R2 (g.next hq pm)⟩

abbrev freshX (w : World) : Obj := { cls := .type "set", dict := none, data := .set #[] 0 (.fresh 0 0 (!w.params.followText "set-order")) }
theorem setX_new {h : Heap} {b : Addr} (e : h.get? b = some (freshX w)) : SetX P w h b [] #[] 0 (.fresh 0 0 (!w.params.followText "set-order")) := by
  refine ⟨⟨_, e, ⟨rfl, rfl, rfl⟩, rfl⟩, rfl, ⟨.nil, rfl, rfl, .inl rfl, (fun x hx => nomatch hx), (fun i z j hz => by simp at hz)⟩, .nil, (fun q hq => nomatch hq), ?_, (by show 0 * 5 < 7 * 3; decide), (by decide)⟩
  by_cases c : w.params.followText "set-order" = true
  · exact .inl c
  · refine .inr ?_
    show (!w.params.followText "set-order") = true
    simp [c]
set_option maxHeartbeats 6400000 in
theorem call_setX_list {l : Addr} {items : Array Value} (ks : List Ent) {Q : Value → Shared → Prop} (hh : A.handled = none) (hl : s.heap.IsList l items) (hit : items.toList = ks.map fun q => Value.ref q.1)
    (hk : ∀ q ∈ ks, IsX P w s.heap q.2 q.1) (h4 : ks.length < 64) (hu : A.units + 3 < cLine)
    (fin : ∀ (h1 : Heap) (tk : Nat) L es ep t, SetX P w h1 s.heap.objs.size L es ep t → Sofar ks ks.length L → (∀ c u, s.heap.get? c = some u → h1.get? c = some u) → Q (.ref s.heap.objs.size) { s with heap := h1, toks := tk }) :
    wpAny (model P w) A (call (.type "set") [.ref l]) Q E s := by
  have size : items.size = ks.length := by rw [← Array.length_toList, hit, List.length_map]
  obtain ⟨c0, tl0, m0⟩ := F.called_set.mro
  have m1 := F.called_set.made
  have m2 := F.called_set.sub
  have m3 := F.called_set.notType
  have m4 := F.called_set.canCreate
  have m5 := F.typeCall_set_1 (.ref l)
  refine wpAny_call (codeAny_of_tree ?_)
  refine wpAny_pure ⟨Code.quiet_builtin _ (by decide +kernel), codeAny_builtin F.entry_type_call ?_⟩
  rw [Around.under_plain (weight_type_call_type "set" [.ref l] []) rfl]
  repeat (any_goals (first | assumption | wp_step))

  refine codeAny_mono (code_set_led1 (.ref l) (E := E) (Q₁ := fun v s1 => v = .ref s.heap.objs.size ∧ s1 = { s with heap := s.heap.push (freshX w) }) ⟨rfl, rfl⟩) fun r s1 hr => ?_
  match r, hr with
  | .error e, hr => exact hr
  | .ok (.ret v), hr =>
    obtain ⟨rfl, rfl⟩ := hr
    have newS : (s.heap.push (freshX w)).get? s.heap.objs.size = some (freshX w) := Heap.get?_push_size _ rfl
    have tyS : Shared.TypeIs { s with heap := s.heap.push (freshX w) } (.ref s.heap.objs.size) "set" := ⟨_, newS, rfl⟩
    have i1 := F.called_set.init.lookup
    have i2 := F.called_set.init.bind (.ref s.heap.objs.size)
    repeat (any_goals (first | assumption | wp_step))

    refine codeAny_mono (codeAny_call_builtin (R := wants (fun v s2 => v = .none ∧ ∃ h1 tk L es ep t, s2 = { s with heap := h1, toks := tk } ∧ SetX P w h1 s.heap.objs.size L es ep t ∧ Sofar ks ks.length L ∧
        (∀ c u, s.heap.get? c = some u → h1.get? c = some u)) E) F.called_set.init.plain F.entry_set_init (check_set_init_1 tyS ?_)) fun r2 s2 hr2 => ?_
    · obtain ⟨⟨oc, od, oa, os⟩, hol, hc1, nl, hd1⟩ := hl
      dsimp only at hc1 hd1
      subst hc1 hd1
      have listS : (s.heap.push (freshX w)).IsList l items := ⟨_, Heap.get?_push_of_some _ hol, rfl, nl, rfl⟩
      have hol2 := Heap.get?_push_of_some (freshX w) hol
      have b1 := F.sub_list_set
      have b2 := F.sub_list_frozenset
      have b3 : (Value.type "list" == Value.type "dict") = false := by decide
      unfold Builtin.«set.__init__» noKeywords Builtin.Frozenset.updateFrom
      generalize hPI : pyIter = PI
      wp_walk
      subst hPI

      refine wpAny_pyIter_list listS ?_
      refine wpAny_bind (wpAny_runValue ?_)
      have z1 : (s.heap.push (freshX w)).objs.size = s.heap.objs.size + 1 := Heap.size_push ..
      have low : @LT.lt Nat _ l s.heap.objs.size := Heap.lt_size hol
      have ne1 : l ≠ (s.heap.push (freshX w)).objs.size := by
        rw [z1]
        exact Nat.ne_of_lt (Nat.lt_succ_of_lt low)
      have hh3 : A.in1.in1.in1.handled = none := by simp [hh]
      have far : ∀ b : Nat, s.heap.objs.size ≤ b → s.heap.get? b = none := fun b hb => by
        cases e : s.heap.get? b with
        | none => rfl
        | some u =>
          have lt : @LT.lt Nat _ b s.heap.objs.size := Heap.lt_size e
          omega
      refine loopX ((Walks.list hh3 _ l ne1 items).toS) s.heap.objs.size (by
          rw [z1, List.mem_cons, List.mem_singleton]
          rintro (z | z)
          · exact absurd z (Nat.ne_of_lt (Nat.lt_succ_self _))
          · exact absurd z (Nat.ne_of_gt low)) ks size h4 (fun i v hv => ?_) s.heap hk (far _ (Nat.le_refl _))
        (fun b hb => far b (by rw [List.mem_singleton.mp hb, z1]; omega)) hu items.size 0 _ (by omega) ⟨⟨_, Heap.get?_push_size _ rfl, rfl, rfl⟩, (listS.push _)⟩ (fun b o e => Heap.get?_push_of_some _ (Heap.get?_push_of_some _ e)) ⟨[], #[], 0, _, setX_new (Heap.get?_push_of_some _ newS), ⟨(fun q hq => nomatch hq), (fun q hq => by simp at hq), Nat.le_refl _⟩⟩ fun s3 L es ep t mv R3 g3 up3 => ?_
      · have q : items.toList[i]? = some v := by rw [Array.getElem?_toList]; exact hv
        rw [hit, List.getElem?_map] at q
        cases e : ks[i]? with
        | none => rw [e] at q; cases q
        | some y =>
          rw [e] at q
          exact ⟨y, rfl, (Option.some.inj q).symm⟩
      · obtain ⟨h3, g3', d3, tk3, os3⟩ := s3
        obtain rfl : g3' = s.gens := mv.gens
        obtain rfl : d3 = s.drawn := mv.drawn
        obtain rfl : os3 = s.os := mv.os
        refine wpAny_pure ?_
        rw [size] at g3
        exact wpAny_pure ⟨rfl, h3, tk3, L, es, ep, t, rfl, R3, g3, up3⟩
    · match r2, hr2 with
      | .error e, hr2 => exact hr2
      | .ok (.ret v), hr2 =>
        obtain ⟨rfl, h1, tk, L, es, ep, t, rfl, R1, g1, up1⟩ := hr2
        repeat (any_goals (first | assumption | wp_step))
        exact fin _ _ _ _ _ _ R1 g1 up1
set_option maxHeartbeats 6400000 in
theorem call_setX_tuple {l : Addr} {items : Array Value} (ks : List Ent) {Q : Value → Shared → Prop} (hh : A.handled = none) (hl : s.heap.IsTuple l items) (hit : items.toList = ks.map fun q => Value.ref q.1)
    (hk : ∀ q ∈ ks, IsX P w s.heap q.2 q.1) (h4 : ks.length < 64) (hu : A.units + 3 < cLine)
    (fin : ∀ (h1 : Heap) (tk : Nat) L es ep t, SetX P w h1 s.heap.objs.size L es ep t → Sofar ks ks.length L → (∀ c u, s.heap.get? c = some u → h1.get? c = some u) → Q (.ref s.heap.objs.size) { s with heap := h1, toks := tk }) :
    wpAny (model P w) A (call (.type "set") [.ref l]) Q E s := by
  have size : items.size = ks.length := by rw [← Array.length_toList, hit, List.length_map]
  obtain ⟨c0, tl0, m0⟩ := F.called_set.mro
  have m1 := F.called_set.made
  have m2 := F.called_set.sub
  have m3 := F.called_set.notType
  have m4 := F.called_set.canCreate
  have m5 := F.typeCall_set_1 (.ref l)
  refine wpAny_call (codeAny_of_tree ?_)
  refine wpAny_pure ⟨Code.quiet_builtin _ (by decide +kernel), codeAny_builtin F.entry_type_call ?_⟩
  rw [Around.under_plain (weight_type_call_type "set" [.ref l] []) rfl]
  repeat (any_goals (first | assumption | wp_step))

  refine codeAny_mono (code_set_led1 (.ref l) (E := E) (Q₁ := fun v s1 => v = .ref s.heap.objs.size ∧ s1 = { s with heap := s.heap.push (freshX w) }) ⟨rfl, rfl⟩) fun r s1 hr => ?_
  match r, hr with
  | .error e, hr => exact hr
  | .ok (.ret v), hr =>
    obtain ⟨rfl, rfl⟩ := hr
    have newS : (s.heap.push (freshX w)).get? s.heap.objs.size = some (freshX w) := Heap.get?_push_size _ rfl
    have tyS : Shared.TypeIs { s with heap := s.heap.push (freshX w) } (.ref s.heap.objs.size) "set" := ⟨_, newS, rfl⟩
    have i1 := F.called_set.init.lookup
    have i2 := F.called_set.init.bind (.ref s.heap.objs.size)
    repeat (any_goals (first | assumption | wp_step))

    refine codeAny_mono (codeAny_call_builtin (R := wants (fun v s2 => v = .none ∧ ∃ h1 tk L es ep t, s2 = { s with heap := h1, toks := tk } ∧ SetX P w h1 s.heap.objs.size L es ep t ∧ Sofar ks ks.length L ∧
        (∀ c u, s.heap.get? c = some u → h1.get? c = some u)) E) F.called_set.init.plain F.entry_set_init (check_set_init_1 tyS ?_)) fun r2 s2 hr2 => ?_
    · obtain ⟨⟨oc, od, oa, os⟩, hol, hc1, nl, hd1⟩ := hl
      dsimp only at hc1 hd1
      subst hc1 hd1
      have listS : (s.heap.push (freshX w)).IsTuple l items := ⟨_, Heap.get?_push_of_some _ hol, rfl, nl, rfl⟩
      have hol2 := Heap.get?_push_of_some (freshX w) hol
      have b1 := F.sub_tuple_set
      have b2 := F.sub_tuple_frozenset
      have b3 : (Value.type "tuple" == Value.type "dict") = false := by decide
      unfold Builtin.«set.__init__» noKeywords Builtin.Frozenset.updateFrom
      generalize hPI : pyIter = PI
      wp_walk
      subst hPI

      refine wpAny_pyIter_tuple listS ?_
      refine wpAny_bind (wpAny_runValue ?_)
      have z1 : (s.heap.push (freshX w)).objs.size = s.heap.objs.size + 1 := Heap.size_push ..
      have low : @LT.lt Nat _ l s.heap.objs.size := Heap.lt_size hol
      have ne1 : l ≠ (s.heap.push (freshX w)).objs.size := by
        rw [z1]
        exact Nat.ne_of_lt (Nat.lt_succ_of_lt low)
      have hh3 : A.in1.in1.in1.handled = none := by simp [hh]
      have far : ∀ b : Nat, s.heap.objs.size ≤ b → s.heap.get? b = none := fun b hb => by
        cases e : s.heap.get? b with
        | none => rfl
        | some u =>
          have lt : @LT.lt Nat _ b s.heap.objs.size := Heap.lt_size e
          omega
      refine loopX ((Walks.tuple hh3 _ l ne1 items).toS) s.heap.objs.size (by
          rw [z1, List.mem_cons, List.mem_singleton]
          rintro (z | z)
          · exact absurd z (Nat.ne_of_lt (Nat.lt_succ_self _))
          · exact absurd z (Nat.ne_of_gt low)) ks size h4 (fun i v hv => ?_) s.heap hk (far _ (Nat.le_refl _))
        (fun b hb => far b (by rw [List.mem_singleton.mp hb, z1]; omega)) hu items.size 0 _ (by omega) ⟨⟨_, Heap.get?_push_size _ rfl, rfl, rfl⟩, (listS.push _)⟩ (fun b o e => Heap.get?_push_of_some _ (Heap.get?_push_of_some _ e)) ⟨[], #[], 0, _, setX_new (Heap.get?_push_of_some _ newS), ⟨(fun q hq => nomatch hq), (fun q hq => by simp at hq), Nat.le_refl _⟩⟩ fun s3 L es ep t mv R3 g3 up3 => ?_
      · have q : items.toList[i]? = some v := by rw [Array.getElem?_toList]; exact hv
        rw [hit, List.getElem?_map] at q
        cases e : ks[i]? with
        | none => rw [e] at q; cases q
        | some y =>
          rw [e] at q
          exact ⟨y, rfl, (Option.some.inj q).symm⟩
      · obtain ⟨h3, g3', d3, tk3, os3⟩ := s3
        obtain rfl : g3' = s.gens := mv.gens
        obtain rfl : d3 = s.drawn := mv.drawn
        obtain rfl : os3 = s.os := mv.os
        refine wpAny_pure ?_
        rw [size] at g3
        exact wpAny_pure ⟨rfl, h3, tk3, L, es, ep, t, rfl, R3, g3, up3⟩
    · match r2, hr2 with
      | .error e, hr2 => exact hr2
      | .ok (.ret v), hr2 =>
        obtain ⟨rfl, h1, tk, L, es, ep, t, rfl, R1, g1, up1⟩ := hr2
        repeat (any_goals (first | assumption | wp_step))
        exact fin _ _ _ _ _ _ R1 g1 up1
end
end Tr
set_option Elab.async false
set_option linter.all false
set_option maxRecDepth 100000
set_option maxHeartbeats 2000000
namespace Tr
open PySem PySem.Spec PyProof.Rows L2
variable [Tabbed]
/-! ### sorted -/
abbrev Duo := Addr × (Str × Str)
def Duo.ent (m : Duo) : Ent := (m.1, [m.2.1, m.2.2])
theorem lift_perm {α β : Type} {f : α → β} {vs us : List β} (pm : vs.Perm us) : ∀ L : List α, us = L.map f → ∃ L1 : List α, L1.Perm L ∧ vs = L1.map f := by
  induction pm with
  | nil =>
    intro L e
    exact ⟨[], by rw [List.map_eq_nil_iff.mp e.symm], rfl⟩
  | cons x _ ih =>
    intro L e
    cases L with
    | nil => cases e
    | cons y L =>
      rw [List.map_cons] at e
      injection e with e1 e2
      obtain ⟨L1, p1, rfl⟩ := ih L e2
      exact ⟨y :: L1, p1.cons y, by rw [List.map_cons, e1]⟩
  | swap x y l =>
    intro L e
    match L, e with
    | a :: b :: L, e =>
      simp only [List.map_cons, List.cons.injEq] at e
      exact ⟨b :: a :: L, .swap a b L, by rw [List.map_cons, List.map_cons, e.1, e.2.1, e.2.2]⟩
  | trans _ _ ih1 ih2 =>
    intro L e
    obtain ⟨L1, p1, e1⟩ := ih2 L e
    obtain ⟨L2, p2, e2⟩ := ih1 L1 e1
    exact ⟨L2, p2.trans p1, e2⟩
theorem duo_alike (p q : Str × Str) : PySem.W.alike (duoD p) (duoD q) = true := by
  simp [duoD, PySem.W.alike, PySem.W.alikeAll]
theorem duo_depth (p : Str × Str) : (duoD p).depth ≤ 1 := by
  simp [duoD, PyData.depth, PyData.depthAll]
theorem text_lt {x y : Str} (h : ¬ y.cps.toList < x.cps.toList) (ne : x ≠ y) : StrLt x y := by
  refine Classical.byContradiction fun h2 => ne ?_
  have e := List.le_antisymm (List.not_lt.mp h2) (List.not_lt.mp h)
  cases x
  cases y
  simp only [Str.mk.injEq]
  exact (Array.toList_inj.mp e).symm
theorem pair_lt_of {p q : Str × Str} (h : PySem.W.dataLt (duoD q) (duoD p) = false) (ne : p ≠ q) : PairLt p q := by
  obtain ⟨a, b⟩ := p
  obtain ⟨c, d⟩ := q
  unfold duoD at h
  rw [PySem.W.dataLt_pair (by simp [PySem.W.alike]) (by simp [PySem.W.alike]), PySem.W.dataLt_str, PySem.W.dataLt_str, eqv_str, eqv_str] at h
  dsimp only at h
  by_cases e1 : c = a
  · subst e1
    refine .inr ⟨rfl, ?_⟩
    have e2 : b ≠ d := fun e => ne (by rw [e])
    rw [if_pos (by simp)] at h
    rw [if_neg (by simp [Ne.symm e2])] at h
    exact text_lt (of_decide_eq_false h) e2
  · rw [if_neg (by simp [e1])] at h
    exact .inl (text_lt (of_decide_eq_false h) (Ne.symm e1))
section
variable {P : Program} {w : World} {A : Around} {E : Value → Shared → Prop} {s : Shared}
theorem duo_reads {h : Heap} {b : Addr} {x y : Str} (k : IsX P w h [x, y] b) : Reads h (.ref b) (duoD (x, y)) [] := by
  obtain ⟨o, its, n, h1, h2, h3, h4⟩ := k
  refine .tuple h1 h2 h3 ?_
  generalize its.toList = us at h4
  cases h4 with
  | cons k1 r1 =>
    cases r1 with
    | cons k2 r2 =>
      cases r2
      obtain ⟨t1, rfl⟩ := Value.isStrOf_shape k1
      obtain ⟨t2, rfl⟩ := Value.isStrOf_shape k2
      exact .cons (.str _ _) (.cons (.str _ _) .nil)
theorem each_at {α β : Type} (f : β → α) : ∀ l : List β, PySem.W.EachIs (fun v b => v = f b) (l.map f) l
  | [] => .nil
  | x :: l => .cons rfl (each_at f l)
theorem each_out {α β : Type} {f : β → α} : ∀ {us : List α} {l : List β}, PySem.W.EachIs (fun v b => v = f b) us l → us = l.map f
  | _, [], .nil => rfl
  | _, _ :: l, .cons h t => by rw [h, each_out t] <;> rfl
theorem each_all {α β : Type} {R : α → β → Prop} {f : β → α} : ∀ (l : List β), (∀ b ∈ l, R (f b) b) → PySem.W.EachIs R (l.map f) l
  | [], _ => .nil
  | x :: l, h => .cons (h x (.head _)) (each_all l fun b hb => h b (.tail _ hb))
theorem sorted_setX {a : Addr} {M : List Duo} {es : Array (Int × Value)} {ep : Nat} {t : SetTable} {Q : Value → Shared → Prop} (R : SetX P w s.heap a (M.map Duo.ent) es ep t) (hh : A.handled = none) (hu : A.units + 9 < cLine)
    (fin : ∀ (s1 : Shared) (p : Addr) (out : Array Value) (c : Nat) (N : List Duo), (∀ b u, s.heap.get? b = some u → s1.heap.get? b = some u) → s1.gens = s.gens → s1.os = s.os → s.heap.objs.size ≤ p →
      s1.heap.get? p = some (seqObj "list" out c) → out.toList = N.map (fun m => Value.ref m.1) → N.Perm M → N.Pairwise (fun m n => PairLt m.2 n.2) → Q (.ref p) s1) :
    wpAny (model P w) A (call (.builtin "sorted") [.ref a]) Q E s := by
  obtain ⟨o, ho, hex, hd⟩ := R.obj
  have few := R.few
  rw [List.length_map] at few
  have big : es.size < scanBound := by
    have h1 := R.sz
    rw [List.length_map] at h1
    unfold scanBound
    omega
  refine Calls.call_function_entry kind_sorted plain_sorted entry_sorted (args_sorted1 _) ?_
  unfold Builtin.«sorted»
  refine wpAny_bind (m := checkCount "sorted" 1 1 _) (wpAny_pure ?_)
  refine wpAny_bind (collect_set (A := A.in1) hh ⟨o, ho, hex.1, hd⟩ R.fit big R.tab.ris R.way fun s1 vs up hz g1 o1 pm => ?_)
  have rows : es.toList.map (·.2) = M.map fun m => Value.ref m.1 := by
    rw [R.row, List.map_map, List.map_map] <;> rfl
  rw [rows] at pm
  obtain ⟨L1, p1, rfl⟩ := lift_perm pm M rfl
  have len1 : L1.length < 64 := by rw [p1.length_eq]; exact few
  refine wpAny_bind (wpAny_newList ?_ (by rw [List.length_map, sizeLine_eq]; omega))
  have at1 : (s1.heap.push (seqObj "list" (L1.map fun m => Value.ref m.1).toArray 0)).get? s1.heap.objs.size = some (seqObj "list" (L1.map fun m => Value.ref m.1).toArray 0) := Heap.get?_push_size _ rfl
  have rd : ∀ m ∈ L1, ∃ as, Reads (s1.heap.push (seqObj "list" (L1.map fun m => Value.ref m.1).toArray 0)) (.ref m.1) (duoD m.2) as ∧ s1.heap.objs.size ∉ as := fun m hm => by
    refine ⟨[], duo_reads (P := P) (w := w) ?_, fun z => nomatch z⟩
    exact (R.key m.ent (List.mem_map_of_mem (p1.mem_iff.mp hm))).up fun c u e => Heap.get?_push_of_some _ (up c u e)
  refine wpAny_bind (wpAny_holding (PySem.W.list_sort_data (s := { s1 with heap := s1.heap.push (seqObj "list" (L1.map fun m => Value.ref m.1).toArray 0) }) (R := fun v m => v = Value.ref m.1) (enc := fun m : Duo => duoD m.2) (bs := L1) at1 (each_at _ L1) (each_all L1 rd)
    (PySem.W.AllAlike.of fun m n => duo_alike _ _) (PySem.W.Sortable.tuples fun m => ⟨_, _, rfl⟩) (by rw [sizeLine_eq]; omega) (fun m hm => by
      have := duo_depth m.2
      have h1 : A.in1.units ≤ A.units + 3 := by simp
      omega) fun out h1 h2 => ?_))
  obtain ⟨c, hc⟩ := sortedHeap_at (vs := L1.map fun m => Value.ref m.1) (out := out.toArray) at1
  have pmN : (L1.mergeSort (PySem.W.dataLe false fun m : Duo => duoD m.2)).Perm M := (List.mergeSort_perm _ _).trans p1
  refine wpAny_pure ⟨_, rfl, fin _ s1.heap.objs.size out.toArray c (L1.mergeSort (PySem.W.dataLe false fun m : Duo => duoD m.2)) (fun b u e => ?_) g1 o1 hz hc (each_out h2) pmN ?_⟩
  · have e1 := up b u e
    have lt := Heap.lt_size e1
    refine (sortedHeap_old (Nat.ne_of_lt lt) ?_).trans (Heap.get?_push_of_some _ e1)
    rw [size_push']
    exact Nat.lt_succ_of_lt lt
  · have tl : PySem.W.TotalLe (PySem.W.dataLe false fun m : Duo => duoD m.2) := PySem.W.sortLe_total _ _ _
    have pw := PySem.W.sort_pairwise tl L1
    have one : (M.map fun m => m.2).Nodup := by
      have h0 := R.one
      rw [List.map_map] at h0
      refine List.Pairwise.map (R := fun m n : Duo => m.2 ≠ n.2) _ (fun m n h => h) ?_
      refine (List.pairwise_map.mp h0).imp fun {m n} h e => h ?_
      show [m.2.1, m.2.2] = [n.2.1, n.2.2]
      rw [e]
    have one2 := (pmN.map fun m => m.2).nodup_iff.mpr one
    refine (pw.and (List.pairwise_map.mp one2)).imp fun {m n} h => pair_lt_of ?_ h.2
    have h1 : (!PySem.W.dataLt (duoD n.2) (duoD m.2)) = true := h.1
    simpa using h1
end
end Tr
namespace Tr
open PySem PySem.Spec PyProof.Rows L2
variable [Tabbed]
/-! ### the rule -/
def SetX0 (P : Program) (w : World) (h : Heap) (a : Addr) (M : List Duo) : Prop :=
  (∃ o, h.get? a = some o) ∧ ∃ es ep t, ∀ h2 : Heap, (∀ u, h.get? a = some u → h2.get? a = some u) → (∀ q ∈ M.map Duo.ent, IsX P w h2 q.2 q.1) → SetX P w h2 a (M.map Duo.ent) es ep t
def SetXO (P : Program) (w : World) (a : Addr) (M : List Duo) : HO := .ext fun h => SetX0 P w h a M
theorem SetX.zero {P : Program} {w : World} {h : Heap} {a : Addr} {M : List Duo} {es : Array (Int × Value)} {ep : Nat} {t : SetTable} (R : SetX P w h a (M.map Duo.ent) es ep t) : SetX0 P w h a M := by
  obtain ⟨o, ho, _⟩ := R.obj
  exact ⟨⟨o, ho⟩, es, ep, t, fun h2 k1 k2 => R.stays k1 k2⟩
theorem setXO_ok {P : Program} {w : World} {H : Hp} {h : Heap} {a : Addr} {M : List Duo} (R : SetX0 P w h a M) : ObjOk P w H h a (SetXO P w a M) := by
  refine ⟨R, R.1, fun h1 h2 p k => ?_⟩
  obtain ⟨⟨o, ho⟩, es, ep, t, f⟩ := p
  exact ⟨⟨o, k o ho⟩, es, ep, t, fun h3 k1 k2 => f h3 (fun u e => k1 u (k u e)) k2⟩
section
variable {X : Cx}
theorem isX_of {pins : List (Addr × Obj)} {σ : L2.St} {H : Hp} {s : Shared} {m : Duo} (I : Inv X pins σ H s) (h : SqT X.K H m.1 [V.str m.2.1, V.str m.2.2]) : IsX X.prog X.w s.heap m.ent.2 m.ent.1 := by
  obtain ⟨its, r, ⟨o, ho, hc, n, hd⟩, _⟩ := I.tuple h
  refine ⟨o, its.toArray, n, ho, hc, hd, ?_⟩
  match its, r with
  | [u1, u2], .cons ⟨t1, e1⟩ (.cons ⟨t2, e2⟩ .nil) =>
    subst e1
    subst e2
    exact .cons (by simp [PySem.strKind, Value.isStrOf]) (.cons (by simp [PySem.strKind, Value.isStrOf]) .nil)
theorem duo_vals : ∀ {M : List Duo} {us : List Value}, Vals (M.map fun m => V.ref m.1) us → us = M.map fun m => Value.ref m.1
  | [], _, .nil => rfl
  | m :: M, _, .cons r t => by
    cases r
    rw [duo_vals t] <;> rfl
theorem vals_duo : ∀ M : List Duo, Vals (M.map fun m => V.ref m.1) (M.map fun m => Value.ref m.1)
  | [] => .nil
  | m :: M => .cons rfl (vals_duo M)
theorem ents_of : ∀ {L : List Ent} {M : List Duo}, (∀ q ∈ L, q ∈ M.map Duo.ent) → ∃ N : List Duo, L = N.map Duo.ent ∧ ∀ m ∈ N, m ∈ M
  | [], _, _ => ⟨[], rfl, fun m h => nomatch h⟩
  | q :: L, M, h => by
    obtain ⟨m, hm, e⟩ := List.mem_map.mp (h q (.head _))
    obtain ⟨N, e2, h2⟩ := ents_of (L := L) (M := M) fun r hr => h r (.tail _ hr)
    refine ⟨m :: N, by rw [List.map_cons, e, e2], fun r hr => ?_⟩
    rcases List.mem_cons.mp hr with rfl | hr
    · exact hm
    · exact h2 r hr
theorem ent_inj {m n : Duo} (e : m.ent.2 = n.ent.2) : m.2 = n.2 := by
  obtain ⟨a, x, y⟩ := m
  obtain ⟨b, z, u⟩ := n
  simpa [Duo.ent] using e
def rSetX (K : PySem.W.Frag) (P : Program) (w : World) : List V → Hp → VK → Prop := fun xs H Q => ∃ (l : Addr) (M : List Duo), xs = [V.ref l] ∧ (SqL K H l (M.map fun m => V.ref m.1) ∨ SqT K H l (M.map fun m => V.ref m.1)) ∧ (∀ m ∈ M, SqT K H m.1 [V.str m.2.1, V.str m.2.2]) ∧ M.length < 64 ∧
  ∀ (a : Addr) (N : List Duo), H a = none → (∀ m ∈ N, m ∈ M) → (∀ m ∈ M, m.2 ∈ N.map (·.2)) → N.length ≤ M.length → (N.map (·.2)).Nodup → Q (.ref a) (upd H a (SetXO P w a N))
theorem call_rSetX (hc : X.calm = true) (hu : X.A.units + 64 < cLine) : CallR X (.type "set") (rSetX X.K X.prog X.w) := by
  rintro pins s σ H xs us Q I r ⟨l, M, rfl, hl, hk, h4, q⟩
  rw [Vals.ref1 r]
  have hn : H s.heap.objs.size = none := I.hok.fresh (Nat.le_refl _)
  have fin : ∀ (h1 : Heap) (tk : Nat) (L : List Ent) es ep t, SetX X.prog X.w h1 s.heap.objs.size L es ep t → Sofar (M.map Duo.ent) (M.map Duo.ent).length L → (∀ c u, s.heap.get? c = some u → h1.get? c = some u) → EP X pins σ Q (.ref s.heap.objs.size) { s with heap := h1, toks := tk } := fun h1 tk L es ep t R g up => by
    rw [List.length_map] at g
    have fr := g.from_
    have wh := g.whole
    have sm := g.small
    rw [List.take_of_length_le (by rw [List.length_map]; exact Nat.le_refl _)] at fr wh
    obtain ⟨N, rfl, hN⟩ := ents_of fr
    rw [List.length_map] at sm
    have one : (N.map (·.2)).Nodup := by
      have h0 := R.one
      rw [List.map_map] at h0
      refine List.Pairwise.map (R := fun m n : Duo => m.2 ≠ n.2) _ (fun m n h => h) ?_
      refine (List.pairwise_map.mp h0).imp fun {m n} h e => h ?_
      show [m.2.1, m.2.2] = [n.2.1, n.2.2]
      rw [e]
    refine ⟨.ref s.heap.objs.size, upd H s.heap.objs.size (SetXO X.prog X.w s.heap.objs.size N), I.laid (t' := tk) up (Nat.le_refl _) (setXO_ok R.zero), rfl, q _ N hn hN (fun m hm => ?_) sm one⟩
    have h2 := wh m.ent (List.mem_map_of_mem hm)
    rw [List.map_map] at h2
    obtain ⟨n, hn2, e2⟩ := List.mem_map.mp h2
    exact List.mem_map.mpr ⟨n, hn2, ent_inj e2⟩
  have keys : ∀ q ∈ M.map Duo.ent, IsX X.prog X.w s.heap q.2 q.1 := fun q hq => by
    obtain ⟨m, hm, rfl⟩ := List.mem_map.mp hq
    exact isX_of I (hk m hm)
  have ents : ∀ {its : List Value}, Vals (M.map fun m => V.ref m.1) its → its = (M.map Duo.ent).map fun q => Value.ref q.1 := fun {its} rv => by
    rw [duo_vals rv, List.map_map] <;> rfl
  rcases hl with hl | hl
  · obtain ⟨its, rv, pl, hz⟩ := I.list hl
    exact call_setX_list (P := X.prog) (w := X.w) (M.map Duo.ent) (I.ok.hd hc) pl.isList (by simpa using ents rv) keys (by rw [List.length_map]; exact h4) (by omega) fin
  · obtain ⟨its, rv, pl, hz⟩ := I.tuple hl
    exact call_setX_tuple (P := X.prog) (w := X.w) (M.map Duo.ent) (I.ok.hd hc) pl (by simpa using ents rv) keys (by rw [List.length_map]; exact h4) (by omega) fin
def rLenX (P : Program) (w : World) : List V → Hp → VK → Prop := fun vs H Q => ∃ (a : Addr) (M : List Duo), vs = [V.ref a] ∧ H a = some (SetXO P w a M) ∧ (∀ m ∈ M, SqT X.K H m.1 [V.str m.2.1, V.str m.2.2]) ∧ Q (.int (M.length : Nat)) H
theorem call_rLenX : CallR X (.builtin "len") (rLenX (X := X) X.prog X.w) := by
  rintro pins s σ H vs us Q I r ⟨a, M, rfl, ha, hk, q⟩
  have z : SetX0 X.prog X.w s.heap a M := (I.hok a _ ha).1
  obtain ⟨_, es, ep, t, f⟩ := z
  have R := f s.heap (fun u e => e) fun y hy => by
    obtain ⟨m, hm, rfl⟩ := List.mem_map.mp hy
    exact isX_of I (hk m hm)
  have size0 : es.size = M.length := by rw [R.sz, List.length_map]
  have few := R.few
  rw [List.length_map] at few
  obtain ⟨o, ho, hex, hd⟩ := R.obj
  rw [Vals.ref1 r]
  rw [← size0] at q
  exact call_len_set ho hex hd R.fit (by omega) ⟨.int es.size, H, I.tok _, ⟨_, rfl⟩, q⟩
def rSortX (K : PySem.W.Frag) (P : Program) (w : World) : List V → Hp → VK → Prop := fun vs H Q => ∃ (a : Addr) (M : List Duo), vs = [V.ref a] ∧ H a = some (SetXO P w a M) ∧ (∀ m ∈ M, SqT K H m.1 [V.str m.2.1, V.str m.2.2]) ∧ M.length < 64 ∧
  ∀ (N : List Duo) (p : Addr), N.Perm M → N.Pairwise (fun m n => PairLt m.2 n.2) → H p = none → Q (.ref p) (upd H p (.lst (N.map fun m => V.ref m.1)))
theorem call_rSortX (hc : X.calm = true) (hu : X.A.units + 64 < cLine) : CallR X (.builtin "sorted") (rSortX X.K X.prog X.w) := by
  rintro pins s σ H vs us Q I r ⟨a, M, rfl, ha, hk, h4, q⟩
  have z : SetX0 X.prog X.w s.heap a M := (I.hok a _ ha).1
  obtain ⟨_, es, ep, t, f⟩ := z
  have R := f s.heap (fun u e => e) fun y hy => by
    obtain ⟨m, hm, rfl⟩ := List.mem_map.mp hy
    exact isX_of I (hk m hm)
  rw [Vals.ref1 r]
  refine sorted_setX R (I.ok.hd hc) (by omega) fun s1 p out c N up g o hp hg hout pm pw => ?_
  have ln : (N.map fun m => V.ref m.1).length ≤ sizeLine := by rw [List.length_map, pm.length_eq, sizeLine_eq]; omega
  have hn : H p = none := I.hok.fresh hp
  have hv : Vals (N.map fun m => V.ref m.1) out.toList := by rw [hout]; exact vals_duo N
  have J : Inv X pins σ (upd H p (.lst (N.map fun m => V.ref m.1))) { s with heap := s1.heap, gens := s1.gens, drawn := s1.drawn, toks := s1.toks } :=
    I.call (ch := []) (Un.laid up hp hn) (I.hok.laid up hp ⟨ln, out.toList, c, hv, hg⟩) (by rw [g]; exact I.bare) (fun _ z => nomatch z)
  have e : s1 = { s with heap := s1.heap, gens := s1.gens, drawn := s1.drawn, toks := s1.toks } := by
    obtain ⟨b1, b2, b3, b4, b5⟩ := s1
    obtain ⟨c1, c2, c3, c4, c5⟩ := s
    dsimp only at o
    subst o
    rfl
  rw [e]
  exact ⟨.ref p, _, J, rfl, q N p pm pw hn⟩
theorem duo_of {K : PySem.W.Frag} {S : Hp} {v : V} {p : Str × Str} (h : Dq K S v (duoD p)) : ∃ a, v = V.ref a ∧ SqT K S a [V.str p.1, V.str p.2] := by
  unfold duoD at h
  cases h with
  | tup sq hd =>
    cases hd with
    | cons k1 k2 =>
      cases k1
      cases k2 with
      | cons k3 k4 =>
        cases k3
        cases k4
        exact ⟨_, rfl, sq⟩
theorem duos_of {K : PySem.W.Frag} {S : Hp} : ∀ (ps : List (Str × Str)) {vs : List V}, DqAll K S vs (ps.map duoD) → ∃ M : List Duo, vs = M.map (fun m => V.ref m.1) ∧ M.map (·.2) = ps ∧ ∀ m ∈ M, SqT K S m.1 [V.str m.2.1, V.str m.2.2]
  | [], vs, h => by
    have h1 : DqAll K S vs [] := h
    cases h1
    exact ⟨[], rfl, rfl, fun m z => nomatch z⟩
  | p :: ps, vs, h => by
    have h1 : DqAll K S vs (duoD p :: ps.map duoD) := h
    cases h1 with
    | cons k1 k2 =>
      obtain ⟨a, rfl, sq⟩ := duo_of k1
      obtain ⟨M, rfl, rfl, hM⟩ := duos_of ps k2
      refine ⟨(a, p) :: M, rfl, rfl, fun m hm => ?_⟩
      rcases List.mem_cons.mp hm with rfl | hm
      · exact sq
      · exact hM m hm
theorem dq_duos {K : PySem.W.Frag} {S : Hp} : ∀ {N : List Duo}, (∀ m ∈ N, SqT K S m.1 [V.str m.2.1, V.str m.2.2]) → DqAll K S (N.map fun m => V.ref m.1) ((N.map (·.2)).map duoD)
  | [], _ => .nil
  | m :: N, h => DqAll.cons (Dq.tup (h m (.head _)) (DqAll.cons (Dq.str _) (DqAll.cons (Dq.str _) DqAll.nil))) (dq_duos fun n hn => h n (.tail _ hn))
def wSortedSet (we : W1) : WA := fun ρ P => we ρ fun d ρ1 => gSortedSet d fun ds => P ds ρ1
variable {e : Expr} {te : TE} {we : W1} {p1 p2 q1 q2 : Pos}
theorem en_sortedSet (hu : X.A.units + 100 < cLine) (hc : X.calm = true) (hms : X.mg "sorted" = none) (hmt : X.mg "set" = none) (ha : EV X e te we) (hgs : Gl X "sorted" := by rfl) (hgt : Gl X "set" := by rfl)
    (he : starEach [e] X.env = (false, eval e X.env) :: starEach [] X.env := by rfl) (hpl : (backTo q2 (starEach [] X.env)).any (·.1) = false := by rfl)
    (he2 : starEach [(.Call (.Name "set" p2) [e] [] q2)] X.env = (false, eval (.Call (.Name "set" p2) [e] [] q2) X.env) :: starEach [] X.env := by rfl) (hpl2 : (backTo q1 (starEach [] X.env)).any (·.1) = false := by rfl) :
    EN X (.Call (.Name "sorted" p1) [.Call (.Name "set" p2) [e] [] q2] [] q1) (tCB (rSortX X.K X.prog X.w) (tCons (tCB (rSetX X.K X.prog X.w) (tCons te tNil)) tNil)) (wSortedSet we) :=
  ⟨pe_callB (call_rSortX hc (by omega)) hgs hms (by decide +kernel) (pa_cons (pe_callTy (call_rSetX hc (by omega)) hgt hmt (by decide +kernel) (pa_cons ha.pe pa_nil he) (by decide) (by decide) he hpl) pa_nil he2) (by decide) (by decide) he2 hpl2, fun F ρ P σ S H Q hw R q =>
    ha.sd F ρ _ σ S H _ hw R fun d ρ1 v S1 H1 h1 R1 s1 d1 => by
      obtain ⟨ps, rfl, h4, hok, g⟩ := h1
      cases d1 with
      | lst sq da =>
        obtain ⟨M, rfl, rfl, hM⟩ := duos_of _ da
        rw [List.length_map] at h4
        refine ⟨_, M, rfl, .inl (same_sqL R1.sub sq), fun m hm => same_sqT R1.sub (hM m hm), h4, fun a N na hN hM2 hl _ => ?_⟩
        refine ⟨a, N, rfl, upd_same, fun m hm => same_sqT (R1.sub.trans (same_new na)) (hM m (hN m hm)), by omega, fun N2 p pm pw hn => ?_⟩
        have np : H1 p = none := by
          cases z : H1 p with
          | none => rfl
          | some o =>
            have := same_new (o := SetXO X.prog X.w a N) na p o z
            rw [this] at hn
            cases hn
        have R2 := R1.lay na (SetXO X.prog X.w a N)
        have key : P ((N2.map (·.2)).map duoD) ρ1 := g _ (List.pairwise_map.mpr pw) (fun pr => ?_) ?_
        · exact q _ ρ1 p _ S1 _ key (R2.lay hn _) s1 (R2.bare hn) (dq_duos fun m hm => hM m (hN m (pm.mem_iff.mp hm)))
        · constructor
          · intro h
            obtain ⟨m, hm, rfl⟩ := List.mem_map.mp h
            exact List.mem_map_of_mem (hN m (pm.mem_iff.mp hm))
          · intro h
            obtain ⟨m, hm, rfl⟩ := List.mem_map.mp h
            exact ((pm.map (·.2)).mem_iff).mpr (hM2 m hm)
        · rw [List.length_map, List.length_map, pm.length_eq]
          exact hl⟩
/-- len(set(xs)) of pairs of texts -/
def wLenSetX (we : W1) : W1 := fun ρ P => we ρ fun d ρ1 => ∃ (b : Bool) (ps : List (Str × Str)), d = seqOf b (ps.map duoD) ∧ ps.length < 64 ∧ ∀ L : List (Str × Str), L.Nodup → (∀ x, x ∈ L ↔ x ∈ ps) → P (.int (L.length : Nat)) ρ1
theorem ev_lenSetX (hu : X.A.units + 100 < cLine) (hc : X.calm = true) (hml : X.mg "len" = none) (hmt : X.mg "set" = none) (ha : EV X e te we) (hgl : Gl X "len" := by rfl) (hgt : Gl X "set" := by rfl)
    (he : starEach [e] X.env = (false, eval e X.env) :: starEach [] X.env := by rfl) (hpl : (backTo q2 (starEach [] X.env)).any (·.1) = false := by rfl)
    (he2 : starEach [(.Call (.Name "set" p2) [e] [] q2)] X.env = (false, eval (.Call (.Name "set" p2) [e] [] q2) X.env) :: starEach [] X.env := by rfl) (hpl2 : (backTo q1 (starEach [] X.env)).any (·.1) = false := by rfl) :
    EV X (.Call (.Name "len" p1) [.Call (.Name "set" p2) [e] [] q2] [] q1) (tCB (rLenX (X := X) X.prog X.w) (tCons (tCB (rSetX X.K X.prog X.w) (tCons te tNil)) tNil)) (wLenSetX we) :=
  ⟨pe_callB call_rLenX hgl hml PySem.boot_len (pa_cons (pe_callTy (call_rSetX hc (by omega)) hgt hmt (by decide +kernel) (pa_cons ha.pe pa_nil he) (by decide) (by decide) he hpl) pa_nil he2) (by decide) (by decide) he2 hpl2, fun F ρ P σ S H Q hw R q =>
    ha.sd F ρ _ σ S H _ hw R fun d ρ1 v S1 H1 h1 R1 s1 d1 => by
      obtain ⟨b, ps, rfl, h64, g⟩ := h1
      have go : ∀ (l : Addr) (M : List Duo), (SqL X.K H1 l (M.map fun m => V.ref m.1) ∨ SqT X.K H1 l (M.map fun m => V.ref m.1)) → M.map (·.2) = ps → (∀ m ∈ M, SqT X.K S1 m.1 [V.str m.2.1, V.str m.2.2]) → v = .ref l →
          rSetX X.K X.prog X.w [v] H1 fun x H2 => rLenX (X := X) X.prog X.w [x] H2 Q := fun l M sq em hM ev => by
        subst em ev
        rw [List.length_map] at h64
        refine ⟨l, M, rfl, sq, fun m hm => same_sqT R1.sub (hM m hm), h64, fun a N na hN hM2 hl one => ?_⟩
        refine ⟨a, N, rfl, upd_same, fun m hm => same_sqT (R1.sub.trans (same_new na)) (hM m (hN m hm)), ?_⟩
        have z := g (N.map (·.2)) one fun x => ⟨fun hx => by
          obtain ⟨m, hm, rfl⟩ := List.mem_map.mp hx
          exact List.mem_map_of_mem (hN m hm), fun hx => by
          obtain ⟨m, hm, rfl⟩ := List.mem_map.mp hx
          exact hM2 m hm⟩
        rw [List.length_map] at z
        exact q _ ρ1 _ S1 _ z (R1.lay na _) s1 (.int _)
      cases b with
      | false =>
        cases d1 with
        | lst sq da =>
          obtain ⟨M, rfl, em, hM⟩ := duos_of _ da
          exact go _ M (.inl (same_sqL R1.sub sq)) em hM rfl
      | true =>
        cases d1 with
        | tup sq da =>
          obtain ⟨M, rfl, em, hM⟩ := duos_of _ da
          exact go _ M (.inr (same_sqT R1.sub sq)) em hM rfl⟩
end
end Tr
set_option Elab.async false
set_option linter.all false
set_option maxRecDepth 100000
set_option maxHeartbeats 2000000
/-! TrR: x[::-1] of a tuple -/
namespace Tr
open PySem PySem.Spec PyProof.Rows L2 HT
variable [Tabbed]
section
variable {P : Program} {w : World} {A : Around} {E : Value → Shared → Prop} {s : Shared}
theorem apply_back {sl : Addr} {vk : Value} {n : Nat} {Q : Int × Int × Nat → Shared → Prop} (hs : s.heap.IsSliceOf sl .none .none vk) (pk : IsPart vk (some (-1))) (q : Q ((n : Int) - 1, -1, n) s) :
    wpAny (model P w) A (Builtin.Slice.sliceApplied (.ref sl) (pure (n : Int))) Q E s := by
  obtain ⟨os, h1, h2, h3⟩ := hs
  unfold Builtin.Slice.sliceApplied; unfold Builtin.Slice.sliceFields
  refine wpAny_bind (wpAny_bind (wpAny_field h1 h3 (x := .none) rfl (wpAny_bind (wpAny_field h1 h3 (x := .none) rfl (wpAny_bind (wpAny_field h1 h3 (x := vk) rfl (wpAny_pure ?_)))))))
  refine wpAny_bind (slicePart_ pk ?_)
  show wpAny _ _ (if ((-1 : Int) == 0) = true then _ else _) _ _ s
  rw [if_neg (by decide)]
  refine wpAny_bind (slicePart_none (wpAny_bind (slicePart_none (wpAny_bind (wpAny_pure ?_)))))
  have e : Builtin.Slice.sliceAdjust none none (-1) (n : Int) = ((n : Int) - 1, -1) := rfl
  have e2 : Builtin.Slice.slicePlaces ((n : Int) - 1) (-1) (-1) = n := by
    unfold Builtin.Slice.slicePlaces
    have z1 : ¬ (-1 : Int) > 0 := by omega
    simp only [z1, if_false, Int.neg_neg, Int.ediv_one]
    split <;> omega
  show wpAny _ _ (match Builtin.Slice.sliceAdjust none none (-1) (n : Int) with | (lo, hi) => pure (lo, (-1 : Int), Builtin.Slice.slicePlaces lo hi (-1))) _ _ s
  rw [e]
  show wpAny _ _ (pure ((n : Int) - 1, (-1 : Int), Builtin.Slice.slicePlaces ((n : Int) - 1) (-1) (-1))) _ _ s
  rw [e2]
  exact wpAny_pure q
theorem fm_same {α β : Type} {f g : α → Option β} : ∀ l : List α, (∀ x ∈ l, f x = g x) → l.filterMap f = l.filterMap g
  | [], _ => rfl
  | x :: l, h => by
    rw [List.filterMap_cons, List.filterMap_cons, h x (.head _), fm_same l fun y hy => h y (.tail _ hy)]
theorem pick_back (xs : Array Value) : ((List.range xs.size).filterMap fun (m : Nat) => xs[(((xs.size : Int) - 1) + (m : Int) * (-1)).toNat]?).toArray = xs.toList.reverse.toArray := by
  congr 1
  have e : (List.range xs.size).filterMap (fun (m : Nat) => xs[(((xs.size : Int) - 1) + (m : Int) * (-1)).toNat]?) = ((List.range xs.size).map fun m => xs.size - 1 - m).filterMap (xs[·]?) := by
    rw [List.filterMap_map]
    refine fm_same _ fun m hm => ?_
    have := List.mem_range.mp hm
    show xs[_]? = xs[xs.size - 1 - m]?
    rw [show (((xs.size : Int) - 1) + (m : Int) * (-1)).toNat = xs.size - 1 - m by omega]
  rw [e, PySem.W.krv_range, List.filterMap_reverse, PySem.W.krv_all]
theorem item_back {t sl : Addr} {its : Array Value} {vk : Value} {Q : Value → Shared → Prop} (ht : IsTup s.heap t its) (hs : s.heap.IsSliceOf sl .none .none vk) (pk : IsPart vk (some (-1))) (hz : its.size ≤ sizeLine)
    (q : Q (.ref s.heap.objs.size) { s with heap := s.heap.push { cls := .type "tuple", data := .seq its.toList.reverse.toArray } }) : wpAny (model P w) A (getItem (.ref t) (.ref sl)) Q E s := by
  have fit : sizeOk (.seq its.toList.reverse.toArray) := by
    show its.toList.reverse.toArray.size ≤ sizeLine
    simpa using hz
  obtain ⟨os, h1, h2, h3⟩ := id hs
  have tyS : s.TypeIs (.ref sl) "slice" := ⟨os, h1, h2⟩
  unfold getItem
  try with_reducible refine wpAny_holding ?_
  try refine wpAny_bind (wpAny_pure ?_)
  refine wpAny_bind (wpAny_sequenceKey ht.typeIs (by decide) (wpAny_bind (wpAny_callSpecial?_slot (name := Str.ofString "__getitem__") ht.typeIs PyProof.Rows.slot_tuple_getitem
    (wpAny_call_entry PyProof.Rows.slot_tuple_getitem ht.typeIs entry_tuple_getitem ?_ (args_tuple_getitem _ _)))))
  refine (show wpAny _ _ (Builtin.Tuple.tupleItemsOf (.ref t) >>= _) _ _ s from ?_)
  refine wpAny_bind (tupleItemsOf_ ht (wpAny_bind (wpAny_typeOf tyS ?_)))
  rw [if_pos (by decide)]
  refine wpAny_bind (apply_back hs pk ?_)
  have no : ¬ ((((its.size : Int) - 1) == 0 && (-1 : Int) == 1 && its.size == its.size) = true) := by simp
  show wpAny _ _ (if (((its.size : Int) - 1) == 0 && (-1 : Int) == 1 && its.size == its.size) = true then _ else _) _ _ s
  rw [if_neg no, pick_back]
  first
    | exact wpAny_bind (m := Builtin.Tuple.tupleExact _) (wpAny_newObj_type (wpAny_pure ⟨_, rfl, wpAny_pure q⟩) fit)
    | exact wpAny_bind (wpAny_bind (m := Builtin.Tuple.tupleExact _) (wpAny_newObj_type (wpAny_pure ⟨_, rfl, wpAny_pure q⟩) fit))
    | exact wpAny_bind (wpAny_bind (m := Builtin.Tuple.tupleExact _) (wpAny_newObj_type (wpAny_pure (wpAny_pure ⟨_, rfl, wpAny_pure q⟩)) fit))
    | exact wpAny_bind (m := Builtin.Tuple.tupleExact _) (wpAny_newObj_type (wpAny_bind (wpAny_pure (wpAny_pure ⟨_, rfl, wpAny_pure q⟩))) fit)
end
def tRevT (K : PySem.W.Frag) (te : TE) : TE := fun σ H Q => te σ H fun x H1 => ∃ (a : Addr) (xs : List V), x = .ref a ∧ SqT K H1 a xs ∧ ∀ p, H1 p = none → Q (.ref p) (upd H1 p (.tup xs.reverse))
section
variable {X : Cx} {a : Expr} {ta : TE} {wa : W1} {k : Nat} {p1 p3 p4 pos : Pos}
theorem pe_revT (he : PE X a ta) : PE X (.Subscript a (.Slice none none (some (.UnaryOp .USub (.Constant (.int 1) k p1) p3)) p4) pos) (tRevT X.K ta) := by
  refine ⟨fun pins s σ H Q I h => Subscript_ (thn (he.run pins s σ H _ I h) ?_)⟩
  rintro v s1 ⟨x, H1, I1, r1, t, xs, rfl, hx, q⟩
  cases r1
  have step : PO X (some (.UnaryOp .USub (.Constant (.int 1) k p1) p3)) (tPart (tUn (rU fun i => .int (-i)) (tC (.int 1)))) := po_some (pe_un un_neg pe_int)
  refine wpAny_Slice (thn (po_none.run pins s1 σ H1 (fun o H2 => o = none ∧ H2 = H1) I1 ⟨rfl, rfl⟩) ?_)
  rintro v1 s2 ⟨l, H2, I2, pl, rfl, rfl⟩
  refine thn (po_none.run pins s2 σ H2 (fun o H3 => o = none ∧ H3 = H2) I2 ⟨rfl, rfl⟩) ?_
  rintro v2 s3 ⟨u, H3, I3, pu, rfl, rfl⟩
  refine thn (step.run pins s3 σ H3 (fun o H4 => o = some (-1) ∧ H4 = H3) I3 ⟨1, rfl, -1, rfl, rfl, rfl⟩) ?_
  rintro v3 s4 ⟨o, H4, I4, ps, rfl, rfl⟩
  cases pl
  cases pu
  have I5 : Inv X pins σ H4 { s4 with heap := s4.heap.push { cls := .type "slice", data := .fields #[.none, .none, v3] } } := I4.kept (t' := s4.toks) fun b u e => Heap.get?_push_of_some _ e
  obtain ⟨its, r, ht, hz⟩ := I5.tuple hx
  have ln := r.length
  refine tail_any (s := { s4 with heap := s4.heap.push { cls := .type "slice", data := .fields #[.none, .none, v3] } }) (ops := [.ref t, .ref s4.heap.objs.size]) ht.typeIs (PyProof.Rows.slot_tuple_getitem.lookup) ?_ (by with_unfolding_all rfl)
  refine item_back ht (Heap.IsSliceOf.new _ .none .none v3) ps (by rw [List.size_toArray]; omega) ?_
  exact ⟨.ref _, _, I5.laid (t' := s4.toks) (o := .tup xs.reverse) (fun b u e => Heap.get?_push_of_some _ e) (Nat.le_refl _) ⟨by rw [List.length_reverse]; exact hz, _, r.reverse, IsTup.new _ _⟩, rfl, q _ (I5.hok.fresh (Nat.le_refl _))⟩
def wRevT (wa : W1) : W1 := fun ρ P => wa ρ fun d ρ1 => asTuple d fun ds => P (.tuple ds.reverse) ρ1
theorem ev_revT (ha : EV X a ta wa) : EV X (.Subscript a (.Slice none none (some (.UnaryOp .USub (.Constant (.int 1) k p1) p3)) p4) pos) (tRevT X.K ta) (wRevT wa) := ⟨pe_revT ha.pe, fun F ρ P σ S H Q hw R q =>
  ha.sd F ρ _ σ S H _ hw R fun d ρ1 v S1 H1 h1 R1 s1 d1 => by
    obtain ⟨ds, rfl, hp⟩ := h1.out
    cases d1 with
    | tup sq hd => exact ⟨_, _, rfl, same_sqT R1.sub sq, fun p n => q _ ρ1 _ _ _ hp (R1.new n (.tup _)) (s1.trans (same_new (same_none R1.sub n))) (.tup (SqT.of upd_same) (dpAll_mono (same_new (same_none R1.sub n)) _ _ hd.reverse))⟩⟩
end
end Tr
set_option Elab.async false
set_option linter.all false
set_option maxRecDepth 100000
set_option maxHeartbeats 2000000
/-! TrI: isinstance(x, (list, tuple)) -/
namespace Tr
open PySem PySem.Spec PyProof.Rows L2
variable [Tabbed]
def tyOf : PyData → String
  | .none => "NoneType"
  | .bool _ => "bool"
  | .int _ => "int"
  | .str _ => "str"
  | .list _ => "list"
  | .tuple _ => "tuple"
  | _ => "dict"
/-- no dict, no thing at the top -/
def top : PyData → Bool
  | .dict _ => false
  | _ => true
theorem top_nd : ∀ {d : PyData}, nd d = true → top d = true
  | .dict _, h => h
  | .none, _ | .bool _, _ | .int _, _ | .str _, _ | .list _, _ | .tuple _, _ => rfl
theorem dq_ty {K : PySem.W.Frag} {H : Hp} {v : V} {d : PyData} (ht : top d = true) (h : Dq K H v d) : TyX K H v (.type (tyOf d)) := by
  cases h with
  | ob => cases ht
  | dc => cases ht
  | non => exact .base .non
  | bl b => exact .base (.bl b)
  | int i => exact .base (.int i)
  | str x => exact .base (.str x)
  | lst sq _ =>
    rcases sq with (h | ⟨o, h⟩) | ⟨its, n, h, _⟩
    · exact .base (.lst h)
    · exact .base (.frz h)
    · exact .kList h rfl
  | tup sq _ =>
    rcases sq with (h | ⟨o, h⟩) | h
    · exact .base (.tup h)
    · exact .fTuple h
    · obtain ⟨o, its, n, h1, h2, _⟩ := h
      exact .kTuple h1 h2
/-- a list or a tuple -/
def isLT : PyData → Bool
  | .list _ => true
  | .tuple _ => true
  | _ => false
theorem kit_lt {K : PySem.W.Frag} {H : Hp} {v : V} {d : PyData} (ht : top d = true) (h : Dq K H v d) : PySem.W.kitAny K (.type (tyOf d)) [.type "list", .type "tuple"] = some (isLT d) := by
  have nn : ∀ n : String, kitB n "list" = some false → kitB n "tuple" = some false → PySem.W.kitAny K (.type n) [.type "list", .type "tuple"] = some false := fun n h1 h2 =>
    kitAny_cons (kit_ty h1) (fun _ => kitAny_cons (kit_ty h2) (fun _ => kitAny_nil) fun z => nomatch z) fun z => nomatch z
  cases h with
  | ob => cases ht
  | dc => cases ht
  | non => exact nn "NoneType" (by decide +kernel) (by decide +kernel)
  | bl b => exact nn "bool" (by decide +kernel) (by decide +kernel)
  | int i => exact nn "int" (by decide +kernel) (by decide +kernel)
  | str x => exact nn "str" (by decide +kernel) (by decide +kernel)
  | lst _ _ => exact kitAny_cons (b := true) (kit_ty (a := "list") (b := "list") (by decide +kernel)) (fun z => nomatch z) fun _ => rfl
  | tup _ _ => exact kitAny_cons (b := false) (kit_ty (a := "tuple") (b := "list") (by decide +kernel)) (fun _ => kitAny_cons (b := true) (kit_ty (a := "tuple") (b := "tuple") (by decide +kernel)) (fun z => nomatch z) fun _ => rfl) fun z => nomatch z
def wIsLT (we : W1) : W1 := fun ρ P => we ρ fun d ρ1 => top d = true ∧ P (.bool (isLT d)) ρ1
section
variable {X : Cx} {e : Expr} {te : TE} {we : W1} {k : Nat} {p p1 p2 pt pos : Pos}
theorem ev_isLT (hm : X.mg "isinstance" = none) (hml : X.mg "list" = none) (hmt : X.mg "tuple" = none) (he : EV X e te we) (hg : Gl X "isinstance" := by rfl) (hgl : Gl X "list" := by rfl) (hgt : Gl X "tuple" := by rfl)
    (hs1 : starEach [.Name "list" p1, .Name "tuple" p2] X.env = (false, eval (.Name "list" p1) X.env) :: starEach [.Name "tuple" p2] X.env := by rfl) (hs2 : starEach [.Name "tuple" p2] X.env = (false, eval (.Name "tuple" p2) X.env) :: starEach [] X.env := by rfl)
    (hs3 : starEach [e, .Tuple [.Name "list" p1, .Name "tuple" p2] k pt] X.env = (false, eval e X.env) :: starEach [.Tuple [.Name "list" p1, .Name "tuple" p2] k pt] X.env := by rfl)
    (hs4 : starEach [.Tuple [.Name "list" p1, .Name "tuple" p2] k pt] X.env = (false, eval (.Tuple [.Name "list" p1, .Name "tuple" p2] k pt) X.env) :: starEach [] X.env := by rfl)
    (hpl : (backTo pos (starEach [.Tuple [.Name "list" p1, .Name "tuple" p2] k pt] X.env)).any (·.1) = false := by rfl) :
    EV X (.Call (.Name "isinstance" p) [e, .Tuple [.Name "list" p1, .Name "tuple" p2] k pt] [] pos) (tCB (rIsiT X.K) (tCons te (tCons (tTup (tCons (tC (.ty "list")) (tCons (tC (.ty "tuple")) tNil))) tNil))) (wIsLT we) :=
  ⟨pe_callB call_isiT hg hm (by decide +kernel) (pa_cons he.pe (pa_cons (pe_tup (pa_cons (pe_bltn hgl hml (v := .ty "list") (u := .type "list") (by decide +kernel) rfl) (pa_cons (pe_bltn hgt hmt (v := .ty "tuple") (u := .type "tuple") (by decide +kernel) rfl) pa_nil hs2) hs1)) pa_nil hs4) hs3) (by decide) (by decide) hs3 hpl, fun F ρ P σ S H Q hw R q =>
    he.sd F ρ _ σ S H _ hw R fun d ρ1 v S1 H1 h1 R1 s1 d1 => by
      refine ⟨by show 2 ≤ sizeLine; rw [sizeLine_eq]; omega, fun tp n => ?_⟩
      have d2 : Dq X.K (upd H1 tp (.tup [.ty "list", .ty "tuple"])) v d := dp_mono (R1.sub.trans (same_new n)) d v d1
      exact ⟨v, tp, [.ty "list", .ty "tuple"], _, [.type "list", .type "tuple"], isLT d, rfl, upd_same, .cons (.ty _) (.cons (.ty _) .nil), dq_ty h1.1 d2, kit_lt h1.1 d2, q _ ρ1 _ S1 _ h1.2 (R1.lay n _) s1 (.bl _)⟩⟩
end
end Tr
set_option Elab.async false
set_option linter.all false
set_option maxRecDepth 100000
set_option maxHeartbeats 2000000
/-! TrM: min(texts, default=None) -/
namespace Tr
open PySem PySem.Spec PyProof.Rows L2
variable [Tabbed]
def lessS (a y : Str) : Str := if y.cps.toList < a.cps.toList then y else a
def leastS : List Str → Option Str
  | [] => none
  | y :: ys => some (ys.foldl lessS y)
def optT : Option Str → PyData
  | none => .none
  | some x => .str x
theorem min_texts (ys : List Str) : ∀ y : Str, PySem.W.minD (.str y) (ys.map .str) = .str (ys.foldl lessS y) := by
  unfold PySem.W.minD
  induction ys with
  | nil => exact fun _ => rfl
  | cons k r ih =>
    intro y
    rw [List.map_cons, List.foldl_cons, List.foldl_cons, PySem.W.dataLt_str]
    have e : (if decide (k.cps.toList < y.cps.toList) = true then PyData.str k else PyData.str y) = .str (lessS y k) := by
      unfold lessS
      by_cases h : k.cps.toList < y.cps.toList
      · rw [if_pos (decide_eq_true h), if_pos h]
      · rw [if_neg (by simpa using h), if_neg h]
    rw [e]
    exact ih _
theorem alike_texts : ∀ xs : List Str, PySem.W.AlikeAll (xs.map .str) := fun xs => by
  refine ⟨fun x hx y hy => ?_, fun x hx => ?_⟩
  · obtain ⟨a, _, rfl⟩ := List.mem_map.mp hx
    obtain ⟨b, _, rfl⟩ := List.mem_map.mp hy
    simp [PySem.W.alike]
  · obtain ⟨a, _, rfl⟩ := List.mem_map.mp hx
    exact fun z => nomatch z
theorem depth_texts : ∀ xs : List Str, PyData.depthAll (xs.map .str) = 0
  | [] => rfl
  | x :: xs => by
    rw [List.map_cons, PyData.depthAll, depth_texts xs]
    simp [PyData.depth]
theorem reads_texts {h : Heap} : ∀ {xs : List Str} {us : List Value}, Vals (xs.map V.str) us → ReadsAll h us (xs.map .str) []
  | [], _, .nil => .nil
  | x :: xs, _, .cons ⟨t, e⟩ r => by
    subst e
    exact .cons (.str x t) (reads_texts r)
def rMinT (K : PySem.W.Frag) : List V → List V → Hp → VK → Prop := fun vs zs H Q => ∃ (a : Addr) (xs : List Str), vs = [.ref a] ∧ zs = [.non] ∧ SqL K H a (xs.map V.str) ∧ (xs = [] → Q .non H) ∧ ∀ m, leastS xs = some m → Q (.str m) H
section
variable {X : Cx}
theorem call_minT (hc : X.calm = true) (hu : X.A.units + 64 < cLine) : CallRK X (.builtin "min") [Str.ofString "default"] (rMinT X.K) := by
  rintro pins s σ H vs zs us ws Q I r1 r2 ⟨a, xs, rfl, rfl, hl, q0, q1⟩
  rw [Vals.ref1 r1]
  obtain ⟨w1, rfl, rfl⟩ : ∃ w1, ws = [w1] ∧ w1 = Value.none := by
    cases r2 with
    | cons h t =>
      cases t
      exact ⟨_, rfl, h⟩
  obtain ⟨its, rv, pl, hz⟩ := I.list hl
  refine PySem.W.min_list_default (I.ok.hd hc) pl.isList (by simpa using reads_texts rv) (alike_texts xs) (by rw [depth_texts]; omega) (fun e h1 tk up => ?_) fun y ys i v h1 tk bs e hv rd up => ?_
  · have e2 : xs = [] := List.map_eq_nil_iff.mp e
    exact ⟨.non, H, I.kept (t' := tk) up, rfl, q0 e2⟩
  · cases xs with
    | nil => cases e
    | cons z zs =>
      rw [List.map_cons] at e
      injection e with e1 e2
      subst e1 e2
      rw [min_texts] at rd
      cases rd
      exact ⟨.str _, H, I.kept (t' := tk) up, ⟨_, rfl⟩, q1 _ rfl⟩
def wMinT (we : W1) : W1 := fun ρ P => we ρ fun d ρ1 => ∃ xs : List Str, d = .list (xs.map .str) ∧ P (optT (leastS xs)) ρ1
theorem texts_dq {K : PySem.W.Frag} {S : Hp} : ∀ (xs : List Str) {vs : List V}, DqAll K S vs (xs.map .str) → vs = xs.map V.str
  | [], vs, h => by
    have h1 : DqAll K S vs [] := h
    cases h1
    rfl
  | x :: xs, vs, h => by
    have h1 : DqAll K S vs (.str x :: xs.map .str) := h
    cases h1 with
    | cons k1 k2 =>
      cases k1
      rw [texts_dq xs k2] <;> rfl
variable {e : Expr} {te : TE} {we : W1} {j : Nat} {p p1 kp pos : Pos}
theorem ev_minT (hu : X.A.units + 64 < cLine) (hc : X.calm = true) (hm : X.mg "min" = none) (ha : EV X e te we) (hg : Gl X "min" := by rfl)
    (he : backTo pos (starEach [e] X.env) = (false, eval e X.env) :: backTo pos (starEach [] X.env) := by rfl) (hpl : (backTo pos (starEach [e] X.env)).any (·.1) = false := by rfl)
    (hs : starEach [e] X.env = (false, eval e X.env) :: starEach [] X.env := by rfl) :
    EV X (.Call (.Name "min" p) [e] [⟨some "default", .Constant .none j p1, kp⟩] pos) (tCKw (rMinT X.K) (tCons te tNil) (tCons (tC .non) tNil)) (wMinT we) :=
  ⟨pe_callBK (call_minT hc hu) hg hm (by decide +kernel) (pa_cons ha.pe pa_nil hs) (pk_cons pe_non pk_nil) (by decide) (by decide) he hpl, fun F ρ P σ S H Q hw R q =>
    ha.sd F ρ _ σ S H _ hw R fun d ρ1 v S1 H1 h1 R1 s1 d1 => by
      obtain ⟨xs, rfl, hp⟩ := h1
      cases d1 with
      | lst sq hd =>
        have e := texts_dq xs hd
        subst e
        refine ⟨_, xs, rfl, rfl, same_sqL R1.sub sq, fun z => ?_, fun m hm => ?_⟩
        · subst z
          exact q _ ρ1 _ S1 H1 hp R1 s1 .non
        · rw [hm] at hp
          exact q _ ρ1 _ S1 H1 hp R1 s1 (.str m)⟩
end
/-- a statement that is never reached -/
theorem sv_dead {X : Cx} {st : Stmt} : SV X st (fun _ _ _ => False) (fun _ _ => False) :=
  ⟨⟨fun pins s σ H D I h => h.elim⟩, fun F ρ N σ S H D hw R T => hw⟩
end Tr
set_option Elab.async false
set_option linter.all false
set_option maxRecDepth 100000
set_option maxHeartbeats 2000000
/-! TrK: f(c=.., b=.., a=..): all by name, none by place -/
namespace Tr
open PySem PySem.Spec PyProof.Rows L2
variable [Tabbed]
section
variable {X : Cx} {k : Nat} {f : Addr} {fd : FuncData} {ps ks : List Str} {g : List Value → List Value → List Value} {gV : List V → List V → List V} {x : Str} {kws : List Keyword} {tk : TA} {p pos : Pos} {T : TSp} {n : Nat} {wa : WA} {es : List Expr}
theorem pe_named {sp : Sp} (F : FnOk X.prog X.w X.K X.mg X.base (L2.CX X.prog X.w) k f fd ps sp) (hr : Room k X.A) (hg : Gl X x) (hm : X.mg x = some (.ref f)) (hk : PySem.W.keepIn X.K (.ref f) = true) (hb : KBn X.K fd ps 0 ks g gV)
    (hkw : PK X kws tk) (hall : (backToKw pos (keywordEach kws X.env)).all (·.1.isSome) = true := by rfl) (hks : (backToKw pos (keywordEach kws X.env)).filterMap (·.1) = ks := by rfl)
    (hdb : (x == ("__debug__" : Str)) = false := by decide) (hpl : ((backTo pos (starEach [] X.env)).any (·.1) || (backToKw pos (keywordEach kws X.env)).any (·.1.isNone)) = false := by rfl) :
    PE X (.Call (.Name x p) [] kws pos) (tCallN 0 ks.length sp gV E0 tNil tk) := by
  refine ⟨fun pins s σ H Q I h => wpAny_Call_Name_kw (ld_glob I hg hm ?_ hdb)⟩
  refine PySem.W.callWith_KW0 (h₀ := X.base) I.ok.mod.kin hk hall (thn (hkw.run pos pins s σ H _ I h) ?_) hpl
  rintro ws s2 ⟨zs, H2, I2, rz, l1, l2, q2⟩
  rw [hks]
  exact ⟨I2.kIn, run_fnN F hr hb passL I2 .nil rz l1 l2 q2⟩
/-- arguments by name -/
structure EKs (X : Cx) (kws : List Keyword) (t : TA) (w : WA) : Prop where
  pk : PK X kws t
  sd : SndA X.K t w
theorem ek_nil : EKs X [] tNil wNil := ⟨pk_nil, fun F ρ P σ S H Q hw R q => q [] ρ [] S H hw R (Same.refl S) .nil⟩
theorem ek_cons {e : Expr} {te : TE} {we : W1} {nm : Option Str} {kp : Pos} (ha : EV X e te we) (hr : EKs X kws tk wa) : EKs X (⟨nm, e, kp⟩ :: kws) (tCons te tk) (wCons we wa) := ⟨pk_cons ha.pe hr.pk, fun F ρ P σ S H Q hw R q =>
  ha.sd F ρ _ σ S H _ hw R fun x ρ1 v S1 H1 h1 R1 s1 d1 =>
    hr.sd F ρ1 _ σ S1 H1 _ h1 R1 fun xs ρ2 vs S2 H2 h2 R2 s2 d2 =>
      q _ ρ2 _ S2 H2 h2 R2 (s1.trans s2) (.cons (dp_mono s2 x v d1) d2)⟩
/-- the names stand in the other order than the parameters -/
def wCallRev (n : Nat) (T : TSp) (wa : WA) : W1 := fun ρ P => wa ρ fun ds ρ1 => ds.length = n ∧ T ds.reverse fun d => P d ρ1
theorem ev_namedRev (F : FnOk X.prog X.w X.K X.mg X.base (L2.CX X.prog X.w) k f fd ps (spV X.K n T)) (hr : Room k X.A) (hm : X.mg x = some (.ref f)) (hk : PySem.W.keepIn X.K (.ref f) = true) (hb : KBn X.K fd ps 0 ks (fun _ ws => ws.reverse) (fun _ zs => zs.reverse)) (hn : ks.length = n)
    (ha : EKs X kws tk wa) (hg : Gl X x := by rfl) (hall : (backToKw pos (keywordEach kws X.env)).all (·.1.isSome) = true := by rfl) (hks : (backToKw pos (keywordEach kws X.env)).filterMap (·.1) = ks := by rfl)
    (hdb : (x == ("__debug__" : Str)) = false := by decide) (hpl : ((backTo pos (starEach [] X.env)).any (·.1) || (backToKw pos (keywordEach kws X.env)).any (·.1.isNone)) = false := by rfl) :
    EV X (.Call (.Name x p) [] kws pos) (tCallN 0 ks.length (spV X.K n T) (fun _ zs => zs.reverse) E0 tNil tk) (wCallRev n T wa) := ⟨pe_named F hr hg hm hk hb ha.pk hall hks hdb hpl, fun F ρ P σ S H Q hw R q =>
  ha.sd F ρ _ σ S H _ hw R fun ds ρ1 vs S1 H1 h1 R1 s1 d1 => ⟨rfl, by rw [d1.len, hn]; exact h1.1,
    snd_spV R1 d1.reverse (by rw [List.length_reverse]; exact h1.1) h1.2 fun d ρ' v S' H' hp R' sm hv => q d ρ' v S' H' hp R' (s1.trans sm) hv⟩⟩
end
end Tr
set_option Elab.async false
set_option linter.all false
set_option maxRecDepth 100000
set_option maxHeartbeats 2000000
/-! TrD: a dict of texts that stands still: made by dict([(text, tree), ..]), read by d[text]; a display with *xs -/
namespace Tr
open PySem PySem.Spec PyProof.Rows L2
variable [Tabbed]
section
variable {K : PySem.W.Frag} {F : Fm} {S H : Hp} {σ : L2.St} {ρ : En}
theorem Rep.setDic (R : Rep K F S H σ ρ) (i : Nat) {v : V} {m : List (Str × PyData)} (h : DicIs K S v m) : Rep K F S H (σ.set i (some v)) (ρ.set i (.dic m)) where
  sub := R.sub
  s0 := R.s0
  fresh := R.fresh
  keep := R.keep
  m0 := R.m0
  mt := R.mt
  tok := R.tok
  tfree := R.tfree
  len := by rw [List.length_set, List.length_set, R.len]
  at_ := fun j e q => by
    rcases get_set q with ⟨rfl, q, hl⟩ | ⟨hj, q⟩
    · cases q
    · obtain ⟨w, h1, h2⟩ := R.at_ j e q
      exact ⟨w, by rw [List.getElem?_set_ne (Ne.symm hj)]; exact h1, h2⟩
  own := fun j m ds q => by
    rcases get_set q with ⟨rfl, q, _⟩ | ⟨hj, q⟩
    · cases q
    · obtain ⟨a, vs, h1, h2⟩ := R.own j m ds q
      exact ⟨a, vs, by rw [List.getElem?_set_ne (Ne.symm hj)]; exact h1, h2⟩
  apart := fun j k m n ds es hne q q' => by
    rcases get_set q with ⟨rfl, q, _⟩ | ⟨hj, q⟩
    · cases q
    · rcases get_set q' with ⟨rfl, q', _⟩ | ⟨hk, q'⟩
      · cases q'
      · rw [List.getElem?_set_ne (Ne.symm hj), List.getElem?_set_ne (Ne.symm hk)]
        exact R.apart j k m n ds es hne q q'
  dic := fun j w q => by
    rcases get_set q with ⟨rfl, q, hl⟩ | ⟨hj, q⟩
    · cases q
      exact ⟨v, List.getElem?_set_self (by rw [R.len]; exact hl), h⟩
    · obtain ⟨u, h1, h2⟩ := R.dic j w q
      exact ⟨u, by rw [List.getElem?_set_ne (Ne.symm hj)]; exact h1, h2⟩
  obj := R.obj.put i _ (fun _ z => by cases z)
end
/-! ### dict([(text, tree), ..]) -/
def pairD (p : Str × PyData) : PyData := .tuple [.str p.1, p.2]
theorem dict_pairs {K : PySem.W.Frag} {S H : Hp} (sub : Same S H) : ∀ (m : List (Str × PyData)) (vs : List V), DqAll K S vs (m.map pairD) →
    ∃ (ps : List Addr) (kvs : List (Key × V)), vs = ps.map V.ref ∧ Paired (fun p kv => SqT K H p [kV kv.1, kv.2]) ps kvs ∧ kvs.map Prod.fst = m.map (fun p => (Sum.inr p.1 : Key)) ∧ DqAll K S (kvs.map Prod.snd) (m.map Prod.snd)
  | [], vs, h => by
    have h' : DqAll K S vs [] := h
    cases h'
    exact ⟨[], [], rfl, .nil, rfl, .nil⟩
  | p :: m, vs, h => by
    have h' : DqAll K S vs (pairD p :: m.map pairD) := h
    cases h' with
    | cons h1 h2 =>
      obtain ⟨ps, kvs, e1, e2, e3, e4⟩ := dict_pairs sub m _ h2
      have h1' : Dq K S _ (.tuple [.str p.1, p.2]) := h1
      cases h1' with
      | tup sq hd =>
        cases hd with
        | cons k1 k2 =>
          cases k2 with
          | cons k3 k4 =>
            cases k4
            cases k1
            refine ⟨_ :: ps, (Sum.inr p.1, _) :: kvs, by rw [e1]; rfl, .cons (same_sqT sub sq) e2, by rw [List.map_cons, List.map_cons, e3], .cons k3 e4⟩
theorem merge_new : ∀ (kvs acc : List (Key × V)), ((acc ++ kvs).map Prod.fst).Nodup → mergeK acc kvs = acc ++ kvs
  | [], acc, _ => by
    show acc = acc ++ []
    rw [List.append_nil]
  | p :: r, acc, h => by
    have no : valV acc p.1 = none := by
      unfold valV
      rw [Option.map_eq_none_iff, List.find?_eq_none]
      intro q hq
      rw [decide_eq_true_eq]
      intro e
      rw [List.map_append, List.map_cons, List.nodup_append] at h
      exact h.2.2 q.1 (List.mem_map_of_mem hq) p.1 (.head _) e
    show mergeK (putK acc p.1 p.2) r = acc ++ p :: r
    rw [putK_new p.2 no, merge_new r _ (by rw [List.append_assoc]; exact h), List.append_assoc]
    rfl
def getD (m : List (Str × PyData)) (y : Str) : Option PyData := (m.find? fun p => decide (p.1 = y)).map (·.2)
theorem dic_get {K : PySem.W.Frag} {S : Hp} {y : Str} {d : PyData} : ∀ {m : List (Str × PyData)} {kvs : List (Key × V)}, kvs.map Prod.fst = m.map (fun p => (Sum.inr p.1 : Key)) → DqAll K S (kvs.map Prod.snd) (m.map Prod.snd) → getD m y = some d → ∃ u, valV kvs (Sum.inr y) = some u ∧ Dq K S u d
  | [], _, _, _, e => by cases e
  | p :: m, [], h1, _, _ => by cases h1
  | p :: m, q :: kvs, h1, h2, e => by
    rw [List.map_cons, List.map_cons] at h1
    injection h1 with h3 h4
    rw [List.map_cons, List.map_cons] at h2
    cases h2 with
    | cons k1 k2 =>
      unfold getD at e
      rw [List.find?_cons] at e
      by_cases c : p.1 = y
      · rw [decide_eq_true c] at e
        have e' : p.2 = d := Option.some.inj e
        subst e'
        exact ⟨q.2, valV_pos (by rw [h3, c]), k1⟩
      · rw [decide_eq_false c] at e
        obtain ⟨u, g1, g2⟩ := dic_get h4 k2 e
        exact ⟨u, by rw [valV_neg (by rw [h3]; intro z; exact c (Sum.inr.inj z))]; exact g1, g2⟩
abbrev rDictP (K : PySem.W.Frag) : List V → Hp → VK → Prop := fun xs H Q => ∃ (a : Addr) (ps : List Addr) (kvs : List (Key × V)), xs = [.ref a] ∧ SqL K H a (ps.map V.ref) ∧ Paired (fun p kv => SqT K H p [kV kv.1, kv.2]) ps kvs ∧ ∀ p, H p = none → Q (.ref p) (upd H p (.dK (mergeK [] kvs)))
def wParDic (i j l : Nat) (wn : WA) (n : Int) : WS := fun ρ N => wn ρ fun ds ρ1 => ∃ m : List (Str × PyData), ds = m.map pairD ∧ (m.map Prod.fst).Nodup ∧ N.nx (((ρ1.set i (.dic m)).set j (.own false [])).set l (.val (.int n)))
section
variable {X : Cx} {ec : Expr} {tec : TE} {wn : WA} {i j l : Nat} {x y z : Str} {px py pz pt pl dp dpos pos pn : Pos} {kt k2 kn : Nat} {pt2 : Pos} {n : Int}
theorem sv_parDic (i j l : Nat) (hc : X.calm = true) (hN : X.N.Nodup) (hm : X.mg "dict" = none) (he : EN X ec tec wn) (hi : X.N[i]? = some x := by rfl) (hj : X.N[j]? = some y := by rfl) (hl : X.N[l]? = some z := by rfl) (hij : i ≠ j := by decide) (hil : i ≠ l := by decide) (hjl : j ≠ l := by decide)
    (hx : X.env.scope.names.lookup x = some .local := by rfl) (hy : X.env.scope.names.lookup y = some .local := by rfl) (hz : X.env.scope.names.lookup z = some .local := by rfl) (hg : Gl X "dict" := by rfl)
    (hw : swappedStores [.Tuple [.Name x px, .Name y py, .Name z pz] kt pt] (.Tuple [.Call (.Name "dict" dp) [ec] [] dpos, .List [] pl, .Constant (.int n) kn pn] k2 pt2) X.env = pure (some [x, y, z]) := by rfl)
    (hs : swapsWithSole [.Tuple [.Name x px, .Name y py, .Name z pz] kt pt] (.Tuple [.Call (.Name "dict" dp) [ec] [] dpos, .List [] pl, .Constant (.int n) kn pn] k2 pt2) pos.line X.env = pure false := by rfl)
    (he1 : starEach [ec] X.env = (false, eval ec X.env) :: starEach [] X.env := by rfl) (hpl : (backTo dpos (starEach [] X.env)).any (·.1) = false := by rfl)
    (h1 : starEach [.Call (.Name "dict" dp) [ec] [] dpos, .List [] pl, .Constant (.int n) kn pn] X.env = (false, eval (.Call (.Name "dict" dp) [ec] [] dpos) X.env) :: starEach [.List [] pl, .Constant (.int n) kn pn] X.env := by rfl)
    (h2 : starEach [.List [] pl, .Constant (.int n) kn pn] X.env = (false, eval (.List [] pl) X.env) :: starEach [.Constant (.int n) kn pn] X.env := by rfl) (h3 : starEach [.Constant (.int n) kn pn] X.env = (false, eval (.Constant (.int n) kn pn) X.env) :: starEach [] X.env := by rfl) :
    SV X (.Assign [.Tuple [.Name x px, .Name y py, .Name z pz] kt pt] (.Tuple [.Call (.Name "dict" dp) [ec] [] dpos, .List [] pl, .Constant (.int n) kn pn] k2 pt2) pos)
      (tPar3 i j l (tCons (tCB (rDictP X.K) (tCons tec tNil)) (tCons (tLst tNil) (tCons (tC (.int n)) tNil)))) (wParDic i j l wn n) :=
  ⟨ps_par3 hc hN hi hj hl hij hil hjl hx hy hz (pa_cons (pe_callTy (call_dictP hc) hg hm (by decide +kernel) (pa_cons he.pe pa_nil he1) (by decide) (by decide) he1 hpl) (pa_cons (pe_lst pa_nil) (pa_cons pe_int pa_nil h3) h2) h1) hw hs, fun F ρ N σ S H D hw R T =>
    he.sd F ρ _ σ S H _ hw R fun ds ρ1 p vs S1 H1 hp R1 s1 B hd => by
      obtain ⟨m, rfl, nd, hq⟩ := hp
      obtain ⟨ps, kvs, rfl, e2, e3, e4⟩ := dict_pairs R1.sub m vs hd
      refine ⟨p, ps, kvs, rfl, SqL.of B.at_, e2, fun q nq => ?_⟩
      have nk : (([] ++ kvs).map Prod.fst).Nodup := by
        rw [List.nil_append, e3]
        have e : m.map (fun p => (Sum.inr p.1 : Key)) = (m.map Prod.fst).map Sum.inr := by rw [List.map_map]; rfl
        rw [e]
        exact List.pairwise_map.mpr (nd.imp fun h z => h (Sum.inr.inj z))
      rw [merge_new kvs [] nk, List.nil_append]
      have R2 := R1.new nq (.dK kvs)
      refine ⟨Nat.zero_le _, fun r nr => ⟨.ref q, .ref r, .int n, rfl, ?_⟩⟩
      have R3 := R2.lay nr (.lst [])
      have B3 : Bare F (upd S1 q (.dK kvs)) (upd (upd H1 q (.dK kvs)) r (.lst [])) σ ρ1 r [] := R2.bare nr
      have dd : DicIs X.K (upd S1 q (.dK kvs)) (.ref q) m := ⟨q, kvs, rfl, upd_same, e3, dpAll_mono (same_new (same_none R1.sub nq)) _ _ e4⟩
      have R4 := R3.setDic i dd
      have R5 := R4.setOwn (p := r) (vs := []) (ds := []) j B3.at_ B3.s B3.h0 (fun k m' es e z => ?_) .nil
      · exact T.nx _ _ _ _ hq (R5.set l (.int n)) (s1.trans (same_new (same_none R1.sub nq)))
      · rcases get_set e with ⟨rfl, e, _⟩ | ⟨hk, e⟩
        · cases e
        · rw [List.getElem?_set_ne (Ne.symm hk)] at z
          exact B3.ap k m' es e z⟩
def dicAt (ρ : En) (i : Nat) (k : List (Str × PyData) → Prop) : Prop := match ρ[i]? with
  | some (.dic m) => k m
  | _ => False
theorem dicAt.out {ρ : En} {i : Nat} {k : List (Str × PyData) → Prop} (h : dicAt ρ i k) : ∃ m, ρ[i]? = some (.dic m) ∧ k m := by
  unfold dicAt at h
  split at h
  · exact ⟨_, by assumption, h⟩
  · exact h.elim
def wDGet (i : Nat) (we : W1) : W1 := fun ρ P => dicAt ρ i fun m => we ρ fun d ρ1 => ∃ (y : Str) (v : PyData), d = .str y ∧ getD m y = some v ∧ P v ρ1
theorem ev_dget (i : Nat) {e : Expr} {te : TE} {we : W1} {p' ps' : Pos} (hu : X.A.units + 64 < cLine) (he : EV X e te we) (hs : NoSl e) (hi : X.N[i]? = some x := by rfl) (hv : Vis X.env.scope x := by first | exact Or.inl rfl | exact Or.inr (Or.inl rfl) | exact Or.inr (Or.inr rfl)) (hd : (x == ("__debug__" : Str)) = false := by decide) (hcd : (x == ("__classdict__" : Str)) = false := by decide) :
    EV X (.Subscript (.Name x p') e ps') (tDGet (tVar i) te) (wDGet i we) := ⟨pe_dget (by omega) (pe_var hi hv hd hcd) he.pe hs, fun F ρ P σ S H Q hw R q => by
  obtain ⟨m, e0, hw⟩ := hw.out
  obtain ⟨v, g1, a, kvs, rfl, g3, g4, g5⟩ := R.dic i m e0
  refine ⟨.ref a, g1, he.sd F ρ _ σ S H _ hw R fun d ρ1 v1 S1 H1 h1 R1 s1 d1 => ?_⟩
  obtain ⟨y, u, rfl, hy, hp⟩ := h1
  cases d1
  obtain ⟨u', k1, k2⟩ := dic_get g4 g5 hy
  have ea : H1 a = some (.dK kvs) := R1.sub _ _ (s1 _ _ g3)
  refine ⟨a, u', rfl, ?_, q u ρ1 u' S1 H1 hp R1 s1 (dp_mono s1 u u' k2)⟩
  have g := DGet.k (k := Sum.inr y) ea
  rw [k1] at g
  exact g⟩
/-- .., *xs, .. -/
def seqItems (d : PyData) (k : List PyData → Prop) : Prop := match d with
  | .list ds => k ds
  | .tuple ds => k ds
  | _ => False
def wStar (we : W1) (wr : WA) : WA := fun ρ P => we ρ fun d ρ1 => seqItems d fun xs => wr ρ1 fun ys ρ2 => P (xs ++ ys) ρ2
theorem ea_star {e : Expr} {es : List Expr} {te : TE} {we : W1} {tr : TA} {wr : WA} {p : Pos} (ha : EV X e te we) (hr : EA X es tr wr) (hs : starEach (.Starred e p :: es) X.env = (true, eval e X.env) :: starEach es X.env := by rfl) : EA X (.Starred e p :: es) (StX.tStar X.K te tr) (wStar we wr) := ⟨StX.pa_star ha.pe hr.pa hs, fun F ρ P σ S H Q hw R q =>
  ha.sd F ρ _ σ S H _ hw R fun d ρ1 v S1 H1 h1 R1 s1 d1 => by
    unfold seqItems at h1
    split at h1
    · cases d1 with
      | lst sq hd => exact ⟨_, _, rfl, .inr (same_sqL R1.sub sq), hr.sd F ρ1 _ σ S1 H1 _ h1 R1 fun ys ρ2 us S2 H2 h2 R2 s2 d2 => q _ ρ2 _ S2 H2 h2 R2 (s1.trans s2) ((dpAll_mono s2 _ _ hd).append d2)⟩
    · cases d1 with
      | tup sq hd => exact ⟨_, _, rfl, .inl (same_sqT R1.sub sq), hr.sd F ρ1 _ σ S1 H1 _ h1 R1 fun ys ρ2 us S2 H2 h2 R2 s2 d2 => q _ ρ2 _ S2 H2 h2 R2 (s1.trans s2) ((dpAll_mono s2 _ _ hd).append d2)⟩
    · exact h1.elim⟩
end
end Tr
set_option Elab.async false
set_option linter.all false
set_option maxRecDepth 100000
set_option maxHeartbeats 2000000
/-! TrO: things that change in place (instances, dicts), and what is left of the slots behind -/
namespace Tr
open PySem PySem.Spec PyProof.Rows L2
variable [Tabbed]
section
variable {K : PySem.W.Frag} {F : Fm} {S S' H H' : Hp} {σ : L2.St} {ρ : En}
theorem still_none (fresh : ∀ b, S b = none → S' b ≠ none → H b = none) {b : Addr} {x : HO} (h : H b = some x) (s : S b = none) : S' b = none := by
  cases e : S' b with
  | none => rfl
  | some o =>
    have z := fresh b s (by rw [e]; simp)
    rw [h] at z
    cases z
/-- behind what changed nothing that is known -/
theorem Rep.after (R : Rep K F S H σ ρ) (sm : Same S S') (sub : Same S' H') (fresh : ∀ b, S b = none → S' b ≠ none → H b = none) (l : Left H H') : Rep K F S' H' σ ρ := by
  refine ⟨sub, R.s0.trans sm, fun b h1 h2 => ?_, fun b o e hm => l.at_ b o (fun z => hm (R.tfree b z)) (R.keep b o e hm), R.m0, fun b hm => ⟨fun z => (R.mt b hm).1 (l.none z), ?_⟩, l.tok, R.tfree, R.len, fun i d e => ?_, fun i m cs e => ?_, R.apart, fun i m e => (R.dic i m e).imp fun v h => ⟨h.1, dic_mono sm h.2⟩, R.obj.call R.tok sm fresh l⟩
  · cases hS : S b with
    | none => exact R.h0 (fresh b hS h2)
    | some o => exact R.fresh b h1 (by rw [hS]; simp)
  · cases hS' : S' b with
    | none => rfl
    | some o => exact absurd (fresh b (R.mt b hm).2 (by rw [hS']; simp)) (R.mt b hm).1
  · obtain ⟨v, h1, h2⟩ := R.at_ i d e
    exact ⟨v, h1, dp_mono sm d v h2⟩
  · obtain ⟨a, us, h1, h2, h3, h4, h5⟩ := R.own i m cs e
    exact ⟨a, us, h1, l.at_ a _ (R.tok.nl h2) h2, still_none fresh h2 h3, dpAll_mono sm cs us h4, h5⟩
/-- a thing's addresses hold no list, no table -/
theorem Rep.oSolid (R : Rep K F S H σ ρ) {i : Nat} {o : Ob} (e : ρ[i]? = some (.obj o)) {b : Addr} (hb : o.M b) : ∃ x, H b = some x ∧ Solid x := (R.obj.at_ i o e).2.1.live b hb
theorem Rep.oLst (R : Rep K F S H σ ρ) {i : Nat} {o : Ob} (e : ρ[i]? = some (.obj o)) {b : Addr} {vs : List V} (h : H b = some (.lst vs)) : ¬ o.M b := fun hb => by
  obtain ⟨x, hx, so⟩ := R.oSolid e hb
  exact lst_soft h x hx so
/-- a slot's thing is changed -/
theorem Rep.mutO (R : Rep K F S H σ ρ) {i : Nat} {o o' : Ob} (e : ρ[i]? = some (.obj o)) (sm : Same S S') (sub : Same S' H') (fresh : ∀ b, S b = none → S' b ≠ none → H b = none)
    (keep : ∀ b x, ¬ o.M b → ¬ Tb b → H b = some x → H' b = some x) (live : ∀ b, H b ≠ none → H' b ≠ none) (tok : CodeTabs H') (ep : o'.p = o.p) (oat : ObAt K S' H' o') (hM : ∀ b, o'.M b → S' b = none ∧ (o.M b ∨ H b = none)) (lo : o'.Lo F.H0) :
    Rep K F S' H' σ (ρ.set i (.obj o')) := by
  obtain ⟨g1, g2, g3, g4⟩ := R.obj.at_ i o e
  refine ⟨sub, R.s0.trans sm, fun b h1 h2 => ?_, fun b x q hm => ?_, R.m0, fun b hm => ⟨live b (R.mt b hm).1, ?_⟩, tok, R.tfree, by rw [List.length_set, R.len], fun j d q => ?_, fun j m cs q => ?_, fun j k m n ds es hne q q' => ?_, fun j m q => ?_, ⟨fun j o2 q => ?_, fun j k o1 o2 hne q q' b hb => ?_⟩⟩
  · cases hS : S b with
    | none => exact R.h0 (fresh b hS h2)
    | some o => exact R.fresh b h1 (by rw [hS]; simp)
  · refine keep b x (fun hb => ?_) (fun z => hm (R.tfree b z)) (R.keep b x q hm)
    rcases (g3 b hb).2 with z | z
    · exact hm z
    · rw [z] at q
      cases q
  · cases hS' : S' b with
    | none => rfl
    | some o => exact absurd (fresh b (R.mt b hm).2 (by rw [hS']; simp)) (R.mt b hm).1
  · rcases get_set q with ⟨rfl, q, _⟩ | ⟨hj, q⟩
    · cases q
    · obtain ⟨v, h1, h2⟩ := R.at_ j d q
      exact ⟨v, h1, dp_mono sm d v h2⟩
  · rcases get_set q with ⟨rfl, q, _⟩ | ⟨hj, q⟩
    · cases q
    · obtain ⟨a, us, h1, h2, h3, h4, h5⟩ := R.own j m cs q
      exact ⟨a, us, h1, keep a _ (R.oLst e h2) (R.tok.nl h2) h2, still_none fresh h2 h3, dpAll_mono sm cs us h4, h5⟩
  · rcases get_set q with ⟨rfl, q, _⟩ | ⟨hj, q⟩
    · cases q
    · rcases get_set q' with ⟨rfl, q', _⟩ | ⟨hk, q'⟩
      · cases q'
      · exact R.apart j k m n ds es hne q q'
  · rcases get_set q with ⟨rfl, q, _⟩ | ⟨hj, q⟩
    · cases q
    · obtain ⟨v, h1, h2⟩ := R.dic j m q
      exact ⟨v, h1, dic_mono sm h2⟩
  · rcases get_set q with ⟨rfl, q, _⟩ | ⟨hj, q⟩
    · cases q
      refine ⟨by rw [ep]; exact g1, oat, fun b hb => ⟨(hM b hb).1, ?_⟩, lo⟩
      rcases (hM b hb).2 with z | z
      · exact (g3 b z).2
      · exact .inr (R.h0 z)
    · obtain ⟨h1, h2, h3, h4⟩ := R.obj.at_ j o2 q
      refine ⟨h1, h2.frame sm fun b x hb hx => ?_, fun b hb => ?_, h4⟩
      · obtain ⟨y, hy, so⟩ := h2.live b hb
        exact keep b x (fun z => R.obj.apart j i o2 o hj q e b hb z) (R.tok.ns so hy) hx
      · obtain ⟨y, hy, so⟩ := h2.live b hb
        exact ⟨still_none fresh hy (h3 b hb).1, (h3 b hb).2⟩
  · rcases get_set q with ⟨rfl, q, _⟩ | ⟨hj, hq⟩
    · cases q
      rcases get_set q' with ⟨rfl, q', _⟩ | ⟨hk, q'⟩
      · exact absurd rfl hne
      · intro hb2
        rcases (hM b hb).2 with z | z
        · exact R.obj.apart j k o o2 hne e q' b z hb2
        · obtain ⟨y, hy, _⟩ := R.oSolid q' hb2
          rw [z] at hy
          cases hy
    · rcases get_set q' with ⟨ek, q2, _⟩ | ⟨hk, q2⟩
      · cases q2
        subst ek
        intro hb2
        rcases (hM b hb2).2 with z | z
        · exact R.obj.apart k j o o1 (Ne.symm hne) e hq b z hb
        · obtain ⟨y, hy, _⟩ := R.oSolid hq hb
          rw [z] at hy
          cases hy
      · exact R.obj.apart j k o1 o2 hne hq q2 b hb
/-- nobody's: a thing that has just been made -/
structure BareO (K : PySem.W.Frag) (F : Fm) (S H : Hp) (ρ : En) (o : Ob) : Prop where
  at_ : ObAt K S H o
  s : ∀ b, o.M b → S b = none ∧ F.H0 b = none
  ap : ∀ (j : Nat) (o2 : Ob), ρ[j]? = some (.obj o2) → ∀ b, o2.M b → ¬ o.M b
  pm : o.M o.p
theorem Ob.mp (o : Ob) : o.M o.p := by
  cases o with
  | ins p C fs q kv => exact .inl rfl
  | dk p m => rfl
  | dt p l => rfl
/-- it goes into a slot -/
theorem Rep.setO (R : Rep K F S H σ ρ) (i : Nat) {o : Ob} (B : BareO K F S H ρ o) : Rep K F S H (σ.set i (some (.ref o.p))) (ρ.set i (.obj o)) where
  sub := R.sub
  s0 := R.s0
  fresh := R.fresh
  keep := R.keep
  m0 := R.m0
  mt := R.mt
  tok := R.tok
  tfree := R.tfree
  len := by rw [List.length_set, List.length_set, R.len]
  at_ := fun j e q => by
    rcases get_set q with ⟨rfl, q, hl⟩ | ⟨hj, q⟩
    · cases q
    · obtain ⟨w, h1, h2⟩ := R.at_ j e q
      exact ⟨w, by rw [List.getElem?_set_ne (Ne.symm hj)]; exact h1, h2⟩
  own := fun j m es q => by
    rcases get_set q with ⟨rfl, q, hl⟩ | ⟨hj, q⟩
    · cases q
    · obtain ⟨a, vs, h1, h2⟩ := R.own j m es q
      exact ⟨a, vs, by rw [List.getElem?_set_ne (Ne.symm hj)]; exact h1, h2⟩
  apart := fun j k m n ds es hne q q' => by
    rcases get_set q with ⟨rfl, q, _⟩ | ⟨hj, q⟩
    · cases q
    · rcases get_set q' with ⟨rfl, q', _⟩ | ⟨hk, q'⟩
      · cases q'
      · rw [List.getElem?_set_ne (Ne.symm hj), List.getElem?_set_ne (Ne.symm hk)]
        exact R.apart j k m n ds es hne q q'
  dic := fun j m q => by
    rcases get_set q with ⟨rfl, q, _⟩ | ⟨hj, q⟩
    · cases q
    · obtain ⟨w, h1, h2⟩ := R.dic j m q
      exact ⟨w, by rw [List.getElem?_set_ne (Ne.symm hj)]; exact h1, h2⟩
  obj := by
    refine ⟨fun j o2 q => ?_, fun j k o1 o2 hne q q' b hb => ?_⟩
    · rcases get_set q with ⟨rfl, q, hl⟩ | ⟨hj, q⟩
      · cases q
        refine ⟨List.getElem?_set_self (by rw [R.len]; exact hl), B.at_, fun b hb => ⟨(B.s b hb).1, .inr (B.s b hb).2⟩, ?_⟩
        cases o with
        | dk p m => exact (B.s p rfl).2
        | _ => trivial
      · rw [List.getElem?_set_ne (Ne.symm hj)]
        exact R.obj.at_ j o2 q
    · rcases get_set q with ⟨rfl, q, _⟩ | ⟨hj, hq⟩
      · cases q
        rcases get_set q' with ⟨rfl, q', _⟩ | ⟨hk, q'⟩
        · exact absurd rfl hne
        · exact fun z => B.ap k o2 q' b z hb
      · rcases get_set q' with ⟨ek, q2, _⟩ | ⟨hk, q2⟩
        · cases q2
          subst ek
          exact B.ap j o1 hq b hb
        · exact R.obj.apart j k o1 o2 hne hq q2 b hb
/-- what is no list and nobody's stands still from now on -/
theorem Rep.stillO (R : Rep K F S H σ ρ) {p : Addr} {x : HO} (hp : H p = some x) (so : Solid x) (hs : S p = none) (h0 : F.H0 p = none) (hm : ¬ F.M p) (ho : ∀ (j : Nat) (o2 : Ob), ρ[j]? = some (.obj o2) → ¬ o2.M p) : Rep K F (upd S p x) H σ ρ where
  sub := fun b y e => by
    by_cases hb : b = p
    · subst hb
      rw [upd_same] at e
      cases e
      exact hp
    · rw [upd_ne hb] at e
      exact R.sub b y e
  s0 := R.s0.trans (same_new hs)
  fresh := fun b h1 h2 => by
    by_cases hb : b = p
    · subst hb
      exact h0
    · rw [upd_ne hb] at h2
      exact R.fresh b h1 h2
  keep := R.keep
  m0 := R.m0
  mt := fun b hb => by
    have hb' : b ≠ p := fun z => hm (z ▸ hb)
    rw [upd_ne hb']
    exact R.mt b hb
  tok := R.tok
  tfree := R.tfree
  len := R.len
  at_ := fun i d e => by
    obtain ⟨v, h1, h2⟩ := R.at_ i d e
    exact ⟨v, h1, dp_mono (same_new hs) d v h2⟩
  own := fun i m ds e => by
    obtain ⟨a, vs, h1, h2, h3, h4, h5⟩ := R.own i m ds e
    have hb : a ≠ p := fun z => lst_soft h2 x (z ▸ hp) so
    exact ⟨a, vs, h1, h2, by rw [upd_ne hb]; exact h3, dpAll_mono (same_new hs) ds vs h4, h5⟩
  apart := R.apart
  dic := fun i m e => by
    obtain ⟨v, h1, h2⟩ := R.dic i m e
    exact ⟨v, h1, dic_mono (same_new hs) h2⟩
  obj := ⟨fun j o2 e => by
    obtain ⟨h1, h2, h3, h4⟩ := R.obj.at_ j o2 e
    refine ⟨h1, h2.frame (same_new hs) fun _ _ _ z => z, fun b hb => ⟨?_, (h3 b hb).2⟩, h4⟩
    have nb : b ≠ p := fun z => ho j o2 e (by rw [← z]; exact hb)
    rw [upd_ne nb]
    exact (h3 b hb).1, R.obj.apart⟩
/-- a thing that is held meanwhile -/
noncomputable def Fm.holdO (F : Fm) (H : Hp) (o : Ob) : Fm := { F with H0 := fun b => haveI := Classical.propDecidable (o.M b); if o.M b then H b else F.H0 b }
theorem holdO_in {o : Ob} {b : Addr} (h : o.M b) : (F.holdO H o).H0 b = H b := by
  unfold Fm.holdO
  exact if_pos h
theorem holdO_out {o : Ob} {b : Addr} (h : ¬ o.M b) : (F.holdO H o).H0 b = F.H0 b := by
  unfold Fm.holdO
  exact if_neg h
theorem Rep.holdO (R : Rep K F S H σ ρ) {o : Ob} (B : BareO K F S H ρ o) : Rep K (F.holdO H o) S H σ ρ where
  sub := R.sub
  s0 := R.s0
  fresh := fun b h1 h2 => by
    have hb : ¬ o.M b := fun z => h2 (B.s b z).1
    rw [holdO_out hb]
    exact R.fresh b h1 h2
  keep := fun b x e hm => by
    by_cases hb : o.M b
    · rw [holdO_in hb] at e
      exact e
    · rw [holdO_out hb] at e
      exact R.keep b x e hm
  m0 := fun b hm z => by
    by_cases hb : o.M b
    · exact R.m0 b hm (B.s b hb).2
    · rw [holdO_out hb] at z
      exact R.m0 b hm z
  mt := R.mt
  tok := R.tok
  tfree := R.tfree
  len := R.len
  at_ := R.at_
  own := fun i m ds e => by
    obtain ⟨a, ws, h1, h2, h3, h4, h5⟩ := R.own i m ds e
    refine ⟨a, ws, h1, h2, h3, h4, ?_⟩
    cases m with
    | true => exact h5
    | false =>
      have hb : ¬ o.M a := fun z => by
        obtain ⟨x, hx, so⟩ := B.at_.live a z
        exact lst_soft h2 x hx so
      rw [if_neg Bool.false_ne_true, holdO_out hb]
      exact h5
  apart := R.apart
  dic := R.dic
  obj := ⟨fun i o2 e => by
    obtain ⟨h1, h2, h3, h4⟩ := R.obj.at_ i o2 e
    refine ⟨h1, h2, fun b hb => ⟨(h3 b hb).1, (h3 b hb).2.imp id fun z => ?_⟩, ?_⟩
    · rw [holdO_out (B.ap i o2 e b hb)]
      exact z
    · cases o2 with
      | dk q m =>
        show (F.holdO H o).H0 q = none
        rw [holdO_out (B.ap i _ e q rfl)]
        exact h4
      | _ => trivial, R.obj.apart⟩
theorem Rep.unholdO {o : Ob} {H1 : Hp} (R : Rep K (F.holdO H1 o) S H σ ρ) (h0 : ∀ b, o.M b → F.H0 b = none ∧ F.S0 b = none ∧ ¬ F.M b) {S1 : Hp} (oat : ObAt K S1 H1 o) (sm : Same S1 S) : Rep K F S H σ ρ ∧ BareO K F S H ρ o := by
  have low : ∀ a, (F.holdO H1 o).H0 a = none → ¬ o.M a ∧ F.H0 a = none := fun a e => by
    by_cases hb : o.M a
    · rw [holdO_in hb] at e
      obtain ⟨x, hx, _⟩ := oat.live a hb
      rw [e] at hx
      cases hx
    · rw [holdO_out hb] at e
      exact ⟨hb, e⟩
  have hold : ∀ b x, o.M b → H1 b = some x → H b = some x := fun b x hb hx => R.keep b x (by rw [holdO_in hb]; exact hx) (h0 b hb).2.2
  have hS : ∀ b, o.M b → S b = none := fun b hb => by
    cases e : S b with
    | none => rfl
    | some y => exact absurd hb (low b (R.fresh b (h0 b hb).2.1 (by rw [e]; simp))).1
  refine ⟨⟨R.sub, R.s0, fun b h1 h2 => (low b (R.fresh b h1 h2)).2, fun b x e hb => ?_, fun b hb z => ?_, R.mt, R.tok, R.tfree, R.len, R.at_, fun i m ds e => ?_, R.apart, R.dic, ⟨fun i o2 e => ?_, R.obj.apart⟩⟩, ⟨oat.frame sm fun b x hb hx => hold b x hb hx, fun b hb => ⟨hS b hb, (h0 b hb).1⟩, fun j o2 e b hb z => ?_, o.mp⟩⟩
  · by_cases hbp : o.M b
    · rw [(h0 b hbp).1] at e
      cases e
    · exact R.keep b x (by rw [holdO_out hbp]; exact e) hb
  · by_cases hbp : o.M b
    · exact (h0 b hbp).2.2 hb
    · exact R.m0 b hb (by rw [holdO_out hbp]; exact z)
  · obtain ⟨a, ws, h1, h2, h3, h4, h5⟩ := R.own i m ds e
    refine ⟨a, ws, h1, h2, h3, h4, ?_⟩
    cases m with
    | true => exact h5
    | false => exact (low a h5).2
  · obtain ⟨h1, h2, h3, h4⟩ := R.obj.at_ i o2 e
    refine ⟨h1, h2, fun b hb => ⟨(h3 b hb).1, (h3 b hb).2.imp id fun z => (low b z).2⟩, ?_⟩
    cases o2 with
    | dk q m => exact (low q h4).2
    | _ => trivial
  · obtain ⟨h1, h2, h3, h4⟩ := R.obj.at_ j o2 e
    rcases (h3 b hb).2 with y | y
    · exact (h0 b z).2.2 y
    · exact (low b y).1 z
theorem BareO.out (R : Rep K F S H σ ρ) {o : Ob} (B : BareO K F S H ρ o) : ∀ b, o.M b → F.H0 b = none ∧ F.S0 b = none ∧ ¬ F.M b := fun b hb =>
  ⟨(B.s b hb).2, same_none R.s0 (B.s b hb).1, fun z => R.m0 b z (B.s b hb).2⟩
end
end Tr
set_option Elab.async false
set_option linter.all false
set_option maxRecDepth 100000
set_option maxHeartbeats 2000000
/-! TrO2: attributes of things that stand still, of a slot's thing; the dict of a thing -/
namespace Tr
open PySem PySem.Spec PyProof.Rows L2
variable [Tabbed]
/-! ### attributes by name -/
theorem look_eq {α : Type} {f : Str} {x : α} {r : List (Str × α)} : List.lookup f ((f, x) :: r) = some x := by simp [List.lookup]
theorem look_ne {α : Type} {f g : Str} {x : α} {r : List (Str × α)} (h : ¬ f = g) : List.lookup f ((g, x) :: r) = List.lookup f r := by
  have hb : (f == g) = false := beq_eq_false_iff_ne.mpr h
  simp [List.lookup, hb]
def putT (f : Str) (x : Fv) : List (Str × Fv) → List (Str × Fv)
  | [] => [(f, x)]
  | (g, y) :: r => if g = f then (g, x) :: r else (g, y) :: putT f x r
section
variable {K : PySem.W.Frag} {S : Hp} {q : Addr}
theorem Fields.look {f : Str} : ∀ {fs : List (Str × V)} {gs : List (Str × Fv)} {x : Fv}, Fields K S q fs gs → gs.lookup f = some x → ∃ v, fs.lookup f = some v ∧ FvIs K S q v x
  | _, _, _, .nil, e => by cases e
  | _, _, x, .cons (f := g) (v := v) (x := y) h1 h2, e => by
    by_cases c : f = g
    · subst c
      rw [look_eq] at e
      cases e
      exact ⟨v, look_eq, h1⟩
    · rw [look_ne c] at e ⊢
      exact Fields.look h2 e
theorem Fields.no {f : Str} : ∀ {fs : List (Str × V)} {gs : List (Str × Fv)}, Fields K S q fs gs → gs.lookup f = none → fs.lookup f = none
  | _, _, .nil, _ => rfl
  | _, _, .cons (f := g) h1 h2, e => by
    by_cases c : f = g
    · subst c
      rw [look_eq] at e
      cases e
    · rw [look_ne c] at e ⊢
      exact Fields.no h2 e
theorem Fields.len : ∀ {fs : List (Str × V)} {gs : List (Str × Fv)}, Fields K S q fs gs → fs.length = gs.length
  | _, _, .nil => rfl
  | _, _, .cons _ h2 => by rw [List.length_cons, List.length_cons, Fields.len h2]
theorem Fields.put {f : Str} {v : V} {x : Fv} (h : FvIs K S q v x) : ∀ {fs : List (Str × V)} {gs : List (Str × Fv)}, Fields K S q fs gs → Fields K S q (putF f v fs) (putT f x gs)
  | _, _, .nil => .cons h .nil
  | _, _, .cons (f := g) (v := u) (x := y) (fs := fs) (gs := gs) h1 h2 => by
    show Fields K S q (if g = f then (g, v) :: fs else (g, u) :: putF f v fs) (if g = f then (g, x) :: gs else (g, y) :: putT f x gs)
    by_cases c : g = f
    · rw [if_pos c, if_pos c]
      exact .cons h h2
    · rw [if_neg c, if_neg c]
      exact .cons h1 (Fields.put h h2)
/-- no attribute but f is the dict -/
def noDic (f : Str) (gs : List (Str × Fv)) : Prop := ∀ p ∈ gs, p.1 ≠ f → p.2 ≠ .dic
theorem Fields.putD {f : Str} {q' : Addr} : ∀ {fs : List (Str × V)} {gs : List (Str × Fv)}, Fields K S q fs gs → noDic f gs → (gs.map Prod.fst).Nodup → Fields K S q' (putF f (.ref q') fs) (putT f .dic gs)
  | _, _, .nil, _, _ => .cons (x := .dic) rfl .nil
  | _, _, .cons (f := g) (v := u) (x := y) (fs := fs) (gs := gs) h1 h2, nd, un => by
    have val : ∀ {g : Str} {u : V} {y : Fv}, y ≠ .dic → FvIs K S q u y → FvIs K S q' u y := fun {g u y} ne h => by
      cases y with
      | val d => exact h
      | dic => exact absurd rfl ne
    have all : ∀ {fs : List (Str × V)} {gs : List (Str × Fv)}, Fields K S q fs gs → (∀ p ∈ gs, p.2 ≠ .dic) → Fields K S q' fs gs := by
      intro fs gs h
      induction h with
      | nil => intro _; exact .nil
      | cons h1 h2 ih => intro w; exact .cons (val (g := f) (w _ List.mem_cons_self) h1) (ih fun p hp => w p (List.mem_cons_of_mem _ hp))
    have un' : ¬ g ∈ gs.map Prod.fst ∧ (gs.map Prod.fst).Nodup := List.nodup_cons.mp un
    show Fields K S q' (if g = f then (g, .ref q') :: fs else (g, u) :: putF f (.ref q') fs) (if g = f then (g, .dic) :: gs else (g, y) :: putT f .dic gs)
    by_cases c : g = f
    · rw [if_pos c, if_pos c]
      refine .cons (x := .dic) rfl (all h2 fun p hp => nd p (List.mem_cons_of_mem _ hp) fun z => ?_)
      exact un'.1 (by rw [c, ← z]; exact List.mem_map_of_mem hp)
    · rw [if_neg c, if_neg c]
      exact .cons (val (g := f) (nd (g, y) List.mem_cons_self c) h1) (Fields.putD h2 (fun p hp => nd p (List.mem_cons_of_mem _ hp)) un'.2)
/-! ### a thing that stands still, as a tree -/
def obT (C : Addr) (fs : List (Str × PyData)) : PyData := .dict (obM C (fs.map Prod.fst) (fs.map Prod.snd))
def dcT (m : List (Str × PyData)) : PyData := .dict (dcM (m.map Prod.fst) (m.map Prod.snd))
theorem dcM_inj : ∀ {ks ks' : List Str} {ds ds' : List PyData}, ks.length = ds.length → ks'.length = ds'.length → dcM ks ds = dcM ks' ds' → ks = ks' ∧ ds = ds'
  | [], [], [], [], _, _, _ => ⟨rfl, rfl⟩
  | [], k :: ks, [], d :: ds, _, _, e => by cases e
  | k :: ks, [], d :: ds, [], _, _, e => by cases e
  | k :: ks, k' :: ks', d :: ds, d' :: ds', h, h', e => by
    have e' : (PyData.str k, d) :: dcM ks ds = (.str k', d') :: dcM ks' ds' := e
    injection e' with e1 e2
    injection e1 with e3 e4
    injection e3 with e5
    obtain ⟨r1, r2⟩ := dcM_inj (by simpa using h) (by simpa using h') e2
    exact ⟨by rw [e5, r1], by rw [e4, r2]⟩
  | [], _ :: _, _ :: _, _, h, _, _ => by simp at h
  | _ :: _, _, [], _, h, _, _ => by simp at h
  | _, [], _, _ :: _, _, h, _ => by simp at h
  | _, _ :: _, _, [], _, h, _ => by simp at h
  | [], [], _ :: _, _, h, _, _ => by simp at h
theorem Dq.obInv {v : V} {C : Addr} {fs : List (Str × PyData)} (h : Dq K S v (obT C fs)) : ∃ (a dx : Addr) (fs' : List (Str × V)), v = .ref a ∧ S a = some (.ins C dx fs') ∧ fs'.map Prod.fst = fs.map Prod.fst ∧ DqAll K S (fs'.map Prod.snd) (fs.map Prod.snd) := by
  unfold obT at h
  generalize em : obM C (fs.map Prod.fst) (fs.map Prod.snd) = m at h
  cases h with
  | ob h1 h2 h3 =>
    rename_i a C' dx fs' ds
    rw [h3] at em
    have em' : ((PyData.none, PyData.int (C : Nat)) :: dcM (fs.map Prod.fst) (fs.map Prod.snd)) = (PyData.none, PyData.int (C' : Nat)) :: dcM (fs'.map Prod.fst) ds := em
    injection em' with e1 e2
    injection e1 with _ e3
    injection e3 with e4
    have e5 : C = C' := Int.ofNat.inj e4
    subst e5
    obtain ⟨r1, r2⟩ := dcM_inj (by simp) (by rw [← h2.len]; simp) e2
    exact ⟨a, dx, fs', rfl, h1, r1.symm, by rw [r2]; exact h2⟩
  | dc h1 hk h2 h3 =>
    rename_i a ks kvs ds
    rw [h3] at em
    cases ks with
    | nil => cases ds <;> cases em
    | cons k ks => cases ds <;> cases em
theorem Dq.dcInv {v : V} {m : List (Str × PyData)} (h : Dq K S v (dcT m)) : ∃ (a : Addr) (kvs : List (Key × V)), v = .ref a ∧ S a = some (.dK kvs) ∧ kvs.map Prod.fst = m.map (fun p => (Sum.inr p.1 : Key)) ∧ DqAll K S (kvs.map Prod.snd) (m.map Prod.snd) := by
  unfold dcT at h
  generalize em : dcM (m.map Prod.fst) (m.map Prod.snd) = w at h
  cases h with
  | ob h1 h2 h3 =>
    rw [h3] at em
    cases m with
    | nil => cases em
    | cons p m => cases em
  | dc h1 hk h2 h3 =>
    rename_i a ks kvs ds
    rw [h3] at em
    have hl : ks.length = ds.length := by
      have := congrArg List.length hk
      have h2' := h2.len
      simp at this h2'
      omega
    obtain ⟨r1, r2⟩ := dcM_inj (by simp) hl em
    refine ⟨a, kvs, rfl, h1, ?_, by rw [r2]; exact h2⟩
    rw [hk, ← r1, List.map_map]
    rfl
theorem look_all : ∀ {fs' : List (Str × V)} {fs : List (Str × PyData)} {f : Str} {x : PyData}, fs'.map Prod.fst = fs.map Prod.fst → DqAll K S (fs'.map Prod.snd) (fs.map Prod.snd) → fs.lookup f = some x → ∃ v, fs'.lookup f = some v ∧ Dq K S v x
  | _, [], _, _, _, _, e => by cases e
  | [], _ :: _, _, _, h, _, _ => by cases h
  | (g', v) :: fs', (g, y) :: fs, f, x, h, h2, e => by
    have h' : g' :: fs'.map Prod.fst = g :: fs.map Prod.fst := h
    injection h' with e1 e2
    subst e1
    have h2' : DqAll K S (v :: fs'.map Prod.snd) (y :: fs.map Prod.snd) := h2
    cases h2' with
    | cons k1 k2 =>
      by_cases c : f = g'
      · subst c
        rw [look_eq] at e
        cases e
        exact ⟨v, look_eq, k1⟩
      · rw [look_ne c] at e ⊢
        exact look_all e2 k2 e
end
def wFld (C : Addr) (f : Str) (we : W1) : W1 := fun ρ P => we ρ fun d ρ1 => ∃ fs x, d = obT C fs ∧ fs.lookup f = some x ∧ P x ρ1
def objAt (ρ : En) (i : Nat) (k : Ob → Prop) : Prop := match ρ[i]? with
  | some (.obj o) => k o
  | _ => False
theorem objAt.out {ρ : En} {i : Nat} {k : Ob → Prop} (h : objAt ρ i k) : ∃ o, ρ[i]? = some (.obj o) ∧ k o := by
  unfold objAt at h
  split at h
  · exact ⟨_, by assumption, h⟩
  · exact h.elim
def insAt (ρ : En) (i : Nat) (C : Addr) (k : Addr → List (Str × Fv) → Addr → Option (List (List Key × PyData)) → Prop) : Prop := match ρ[i]? with
  | some (.obj (.ins p C' fs q kv)) => C' = C ∧ k p fs q kv
  | _ => False
theorem insAt.out {ρ : En} {i : Nat} {C : Addr} {k : Addr → List (Str × Fv) → Addr → Option (List (List Key × PyData)) → Prop} (h : insAt ρ i C k) : ∃ p fs q kv, ρ[i]? = some (.obj (.ins p C fs q kv)) ∧ k p fs q kv := by
  unfold insAt at h
  split at h
  · obtain ⟨rfl, h⟩ := h
    exact ⟨_, _, _, _, by assumption, h⟩
  · exact h.elim
def wFldO (C : Addr) (i : Nat) (f : Str) : W1 := fun ρ P => insAt ρ i C fun _ fs _ _ => ∃ x, fs.lookup f = some (.val x) ∧ P x ρ
def wSetF (C : Addr) (i : Nat) (f : Str) (we : W1) : WS := fun ρ N => we ρ fun d ρ1 => insAt ρ1 i C fun p fs q kv => fs.length < 1000 ∧ N.nx (ρ1.set i (.obj (.ins p C (putT f (.val d) fs) q kv)))
def wSetFD (C : Addr) (i : Nat) (f : Str) : WS := fun ρ N => insAt ρ i C fun p fs _ _ => fs.length < 1000 ∧ noDic f fs ∧ (fs.map Prod.fst).Nodup ∧ ∀ q, N.nx (ρ.set i (.obj (.ins p C (putT f .dic fs) q (some []))))
section
variable {K : PySem.W.Frag} {F : Fm} {S H : Hp} {σ : L2.St} {ρ : En}
/-- one object of a slot's thing is changed -/
theorem Rep.pokeO (R : Rep K F S H σ ρ) {i : Nat} {o o' : Ob} (e : ρ[i]? = some (.obj o)) {a : Addr} {x' : HO} (ha : o.M a) (ep : o'.p = o.p) (oat : ObAt K S (upd H a x') o') (hM : ∀ b, o'.M b → o.M b) (lo : o'.Lo F.H0) : Rep K F S (upd H a x') σ (ρ.set i (.obj o')) := by
  obtain ⟨g1, g2, g3, g4⟩ := R.obj.at_ i o e
  obtain ⟨x, hx, so⟩ := g2.live a ha
  have hs := (g3 a ha).1
  refine R.mutO e (Same.refl S) (fun b y z => ?_) (fun b h1 h2 => absurd h1 h2) (fun b y hb _ z => ?_) (fun b hb => ?_) (R.tok.butO hx so fun b y hb z => by rw [upd_ne hb]; exact z) ep oat (fun b hb => ⟨(g3 b (hM b hb)).1, .inl (hM b hb)⟩) lo
  · rw [upd_ne (ne_of_none z hs)]
    exact R.sub b y z
  · have nb : b ≠ a := fun w => hb (by rw [w]; exact ha)
    rw [upd_ne nb]
    exact z
  · by_cases c : b = a
    · rw [c, upd_same]
      simp
    · rw [upd_ne c]
      exact hb
end
section
variable {X : Cx} {e : Expr} {te : TE} {we : W1} {pos px pos' : Pos} {C : Addr} {f x : Str}
theorem ev_fld (c : Cls X.K C) (n : NoAttr X.K C f) (he : EV X e te we) (hb : attributeBase e f X.env (eval e X.env) = eval e X.env := by rfl) : EV X (.Attribute e f pos) (tFld X.K te f) (wFld C f we) := ⟨pe_fld he.pe hb, fun F ρ P σ S H Q hw R q =>
  he.sd F ρ _ σ S H _ hw R fun d ρ1 v S1 H1 h1 R1 s1 d1 => by
    obtain ⟨fs, y, rfl, hl, hp⟩ := h1
    obtain ⟨a, dx, fs', rfl, k1, k2, k3⟩ := d1.obInv
    obtain ⟨u, g1, g2⟩ := look_all k2 k3 hl
    exact ⟨a, C, dx, fs', u, rfl, R1.sub _ _ k1, c, n, g1, q y ρ1 u S1 H1 hp R1 s1 g2⟩⟩
theorem ev_fldO (i : Nat) (c : Cls X.K C) (n : NoAttr X.K C f) (hN : X.N[i]? = some x := by rfl) (hv : Vis X.env.scope x := by first | exact Or.inl rfl | exact Or.inr (Or.inl rfl) | exact Or.inr (Or.inr rfl)) (hd : (x == ("__debug__" : Str)) = false := by decide)
    (hcd : (x == ("__classdict__" : Str)) = false := by decide) (hb : attributeBase (.Name x px) f X.env (eval (.Name x px) X.env) = eval (.Name x px) X.env := by rfl) :
    EV X (.Attribute (.Name x px) f pos) (tFld X.K (tVar i) f) (wFldO C i f) := ⟨pe_fld (pe_var hN hv hd hcd) hb, fun F ρ P σ S H Q hw R q => by
  obtain ⟨p, fs, q', kv, e, y, hy, hp⟩ := hw.out
  obtain ⟨g1, ⟨⟨dx, fs', h1, h2⟩, h3⟩, g3, g4⟩ := R.obj.at_ i _ e
  obtain ⟨v, hv', hd'⟩ := h2.look hy
  exact ⟨.ref p, g1, p, C, dx, fs', v, rfl, h1, c, n, hv', q y ρ v S H hp R (Same.refl S) hd'⟩⟩
/-- self.f = e -/
theorem sv_setF (i : Nat) (c : Cls X.K C) (n : NoAttr X.K C f) (he : EV X e te we) (hN : X.N[i]? = some x := by rfl) (hv : Vis X.env.scope x := by first | exact Or.inl rfl | exact Or.inr (Or.inl rfl) | exact Or.inr (Or.inr rfl)) (hd : (x == ("__debug__" : Str)) = false := by decide)
    (hcd : (x == ("__classdict__" : Str)) = false := by decide) (hs : swapsWith e (some (.Attribute (.Name x px) f pos')) pos.line X.env = pure false := by rfl) :
    SV X (.Assign [.Attribute (.Name x px) f pos'] e pos) (sFld X.K (tVar i) te f) (wSetF C i f we) := ⟨ps_fld (pe_var hN hv hd hcd) he.pe hs, fun F ρ N σ S H D hw R T =>
  he.sd F ρ _ σ S H _ hw R fun d ρ1 v S1 H1 h1 R1 s1 d1 => by
    obtain ⟨p, fs, q, kv, e, hlen, hp⟩ := h1.out
    obtain ⟨g1, ⟨⟨dx, fs', k1, k2⟩, k3⟩, g3, g4⟩ := R1.obj.at_ i _ e
    refine ⟨.ref p, g1, p, C, dx, fs', rfl, k1, c, n, by rw [k2.len]; exact hlen, T.nx _ _ S1 _ hp (R1.pokeO e (.inl rfl) rfl ⟨⟨dx, _, upd_same, k2.put (x := .val d) d1⟩, fun l hl => ?_⟩ (fun b hb => hb) trivial) s1⟩
    obtain ⟨kvs, w1, w2⟩ := k3 l hl
    exact ⟨kvs, by rw [upd_ne (ne_of w1 k1 (by intro z; cases z))]; exact w1, w2⟩⟩
/-- self.f = {}, a dict of tuples -/
theorem sv_setFD (i : Nat) {pd : Pos} (c : Cls X.K C) (n : NoAttr X.K C f) (hN : X.N[i]? = some x := by rfl) (hv : Vis X.env.scope x := by first | exact Or.inl rfl | exact Or.inr (Or.inl rfl) | exact Or.inr (Or.inr rfl)) (hd : (x == ("__debug__" : Str)) = false := by decide)
    (hcd : (x == ("__classdict__" : Str)) = false := by decide) (hs : swapsWith (.Dict [] [] pd) (some (.Attribute (.Name x px) f pos')) pos.line X.env = pure false := by rfl) :
    SV X (.Assign [.Attribute (.Name x px) f pos'] (.Dict [] [] pd) pos) (sFld X.K (tVar i) tDNewT f) (wSetFD C i f) := ⟨ps_fld (pe_var hN hv hd hcd) pe_dnewT hs, fun F ρ N σ S H D hw R T => by
  obtain ⟨p, fs, q0, kv, e, hlen, nod, un, hp⟩ := hw.out
  intro q nq
  obtain ⟨g1, ⟨⟨dx, fs', k1, k2⟩, k3⟩, g3, g4⟩ := R.obj.at_ i _ e
  have npq : p ≠ q := ne_of_none k1 nq
  have k1' : upd H q (.dT []) p = some (.ins C dx fs') := by rw [upd_ne npq]; exact k1
  refine ⟨.ref p, g1, p, C, dx, fs', rfl, k1', c, n, by rw [k2.len]; exact hlen, T.nx _ _ S _ (hp q) (R.mutO e (Same.refl S) (fun b y z => ?_) (fun b h1 h2 => absurd h1 h2) (fun b y hb _ z => ?_) (fun b hb => ?_) ?_ rfl ⟨⟨dx, _, upd_same, k2.putD nod un⟩, fun l hl => ?_⟩ (fun b hb => ?_) trivial) (Same.refl S)⟩
  · rw [upd_ne (ne_of_none z (g3 p (.inl rfl)).1), upd_ne (ne_of_none (R.sub b y z) nq)]
    exact R.sub b y z
  · rw [upd_ne fun w => hb (.inl w), upd_ne (ne_of_none z nq)]
    exact z
  · by_cases cb : b = p
    · rw [cb, upd_same]
      simp
    · rw [upd_ne cb]
      by_cases cq : b = q
      · rw [cq, upd_same]
        simp
      · rw [upd_ne cq]
        exact hb
  · exact (R.tok.same (same_new nq)).butO k1' .ins fun b y hb z => by rw [upd_ne hb]; exact z
  · cases hl
    exact ⟨[], by rw [upd_ne npq.symm, upd_same], rfl, .nil⟩
  · rcases hb with rfl | ⟨_, rfl⟩
    · exact ⟨(g3 b (.inl rfl)).1, .inl (.inl rfl)⟩
    · exact ⟨same_none R.sub nq, .inr nq⟩⟩
end
end Tr
set_option Elab.async false
set_option linter.all false
set_option maxRecDepth 100000
set_option maxHeartbeats 2000000
/-! TrO3: defs and methods whose first argument is a thing; things that are made -/
namespace Tr
open PySem PySem.Spec PyProof.Rows L2
variable [Tabbed]
/-- what such a def promises: the thing, the other arguments, what comes of both -/
abbrev TSo := Ob → List PyData → (PyData → Ob → Prop) → Prop
/-- what is known of the heap behind a call that changes the thing o -/
structure Done (S H S' H' : Hp) (o o' : Ob) : Prop where
  sm : Same S S'
  sub : Same S' H'
  fresh : ∀ b, S b = none → S' b ≠ none → H b = none
  keep : ∀ b x, ¬ o.M b → ¬ Tb b → H b = some x → H' b = some x
  live : ∀ b, H b ≠ none → H' b ≠ none
  tok : CodeTabs H'
  ep : o'.p = o.p
  hM : ∀ b, o'.M b → S' b = none ∧ (o.M b ∨ H b = none)
def spO (K : PySem.W.Frag) (n : Nat) (T : TSo) : Sp := fun vs H Q _ => ∃ S o vr ds P, vs = .ref o.p :: vr ∧ Same S H ∧ Found S H ∧ ObAt K S H o ∧ (∀ b, o.M b → S b = none) ∧ (∀ F0, o.Lo F0) ∧ DqAll K S vr ds ∧ ds.length = n ∧ T o ds P ∧
  ∀ d o' v S' H', P d o' → Done S H S' H' o o' → ObAt K S' H' o' → (∀ F0, o'.Lo F0) → Dq K S' v d → Q v H'
theorem spO_len {K : PySem.W.Frag} {n : Nat} {T : TSo} (vs : List V) (H : Hp) (Q : VK) (E : XK) (h : spO K n T vs H Q E) : vs.length = n + 1 := by
  obtain ⟨S, o, vr, ds, P, rfl, _, _, _, _, _, hd, hl, _⟩ := h
  rw [List.length_cons, hd.len, hl]
def startO (N : List Str) (o : Ob) (ds : List PyData) : En := .obj o :: (ds.map .val ++ List.replicate (N.length - (ds.length + 1)) .un)
theorem rep_startO {K : PySem.W.Frag} {S H : Hp} {o : Ob} {vs : List V} {ds : List PyData} (N : List Str) (sm : Same S H) (fo : Found S H) (oat : ObAt K S H o) (es : ∀ b, o.M b → S b = none) (lo : ∀ F0, o.Lo F0) (hd : DqAll K S vs ds) :
    Rep K ⟨H, fun b => o.M b ∨ Tb b, S⟩ S H (L2.start N (.ref o.p :: vs)) (startO N o ds) where
  sub := sm
  s0 := Same.refl S
  fresh := fun b h1 h2 => absurd h1 h2
  keep := fun b o e _ => e
  m0 := fun b h => by
    show H b ≠ none
    rcases h with h | h
    · obtain ⟨x, hx, _⟩ := oat.live b h
      rw [hx]
      simp
    · obtain ⟨ps, e⟩ := fo.tok.tbl h
      rw [e]
      simp
  mt := fun b h => by
    rcases h with h | h
    · obtain ⟨x, hx, _⟩ := oat.live b h
      exact ⟨by rw [hx]; simp, es b h⟩
    · obtain ⟨ps, e⟩ := fo.tok.tbl h
      rw [e]
      exact ⟨by simp, fo.off b h⟩
  tok := fo.tok
  tfree := fun b h => .inr h
  len := by
    have := hd.len
    unfold L2.start startO
    simp only [List.length_append, List.length_map, List.length_replicate, List.length_cons]
    omega
  at_ := fun i d e => by
    unfold L2.start startO at *
    cases i with
    | zero => simp at e
    | succ i =>
      simp only [List.getElem?_cons_succ, List.map_cons, List.cons_append, List.length_cons] at e ⊢
      rw [hd.len]
      exact at_start hd e
  own := fun i m fs e => by
    unfold startO at e
    cases i with
    | zero => simp at e
    | succ i =>
      simp only [List.getElem?_cons_succ] at e
      exact absurd e no_own
  apart := fun i j m n fs gs hne e e' => by
    unfold startO at e e'
    cases i with
    | zero => simp at e
    | succ i =>
      simp only [List.getElem?_cons_succ] at e
      exact absurd e no_own
  dic := fun i m e => by
    unfold startO at e
    cases i with
    | zero => simp at e
    | succ i =>
      simp only [List.getElem?_cons_succ] at e
      exact absurd e no_dic
  obj := by
    refine ⟨fun i o2 e => ?_, fun i j o1 o2 hne e e' => ?_⟩
    · unfold startO at e
      cases i with
      | zero =>
        have e' : o = o2 := by simpa using e
        subst e'
        exact ⟨rfl, oat, fun b hb => ⟨es b hb, .inl (.inl hb)⟩, lo _⟩
      | succ i =>
        simp only [List.getElem?_cons_succ] at e
        exact absurd e no_obj
    · unfold startO at e e'
      cases i with
      | zero =>
        cases j with
        | zero => exact absurd rfl hne
        | succ j =>
          simp only [List.getElem?_cons_succ] at e'
          exact absurd e' no_obj
      | succ i =>
        simp only [List.getElem?_cons_succ] at e
        exact absurd e no_obj
/-- a thing that may go from def to def -/
def Ob.Go : Ob → Prop
  | .dk _ _ => False
  | _ => True
theorem Ob.Go.lo : ∀ {o : Ob}, o.Go → ∀ F0, o.Lo F0
  | .ins _ _ _ _ _, _, _ => trivial
  | .dt _ _, _, _ => trivial
  | .dk _ _, h, _ => h.elim
section
variable {P : Program} {w : World} {K : PySem.W.Frag} {mg : Str → Option Value} {base : Heap}
theorem endO {S H S' H' : Hp} {o o' : Ob} {σ' : L2.St} {ρ' : En} (e : ρ'[0]? = some (.obj o')) (ep : o'.p = o.p) (s' : Same S S') (R' : Rep K ⟨H, fun b => o.M b ∨ Tb b, S⟩ S' H' σ' ρ') : Done S H S' H' o o' ∧ ObAt K S' H' o' := by
  obtain ⟨g1, g2, g3, g4⟩ := R'.obj.at_ 0 o' e
  refine ⟨⟨s', R'.sub, fun b h1 h2 => R'.fresh b h1 h2, fun b x h1 h2 hx => R'.keep b x hx fun z => z.elim h1 h2, fun b hb => ?_, R'.tok, ep, fun b hb => ⟨(g3 b hb).1, ?_⟩⟩, g2⟩
  · cases hH : H b with
    | none => exact absurd hH hb
    | some x =>
      by_cases c : o.M b ∨ Tb b
      · exact (R'.mt b c).1
      · rw [R'.keep b x hH c]
        simp
  · rcases (g3 b hb).2 with (z | z) | z
    · exact .inl z
    · obtain ⟨x, hx, so⟩ := g2.live b hb
      exact absurd z (R'.tok.ns so hx)
    · exact .inr z
/-- THE RULE for a def whose first argument is a thing -/
theorem fnO {x qual : Str} {st : Stmt} {f : Addr} {fd : FuncData} {N ps : List Str} {k n : Nat} {T : TSo} (Fn : Fun K x qual st f fd) (Sc : FnScope N ps (defScope st)) (hn : ps.length = n + 1)
    (hbody : ∀ (cdv : Value) (A : Around) (outer : List Env) (s : Shared) (H : Hp) (E : XK), Room k (A.deeper (envOfC qual (defScope st) s.heap.objs.size f cdv)) →
      ∃ t wt, SVs (cxOf (L2.CX P w) P w K mg base N qual (defScope st) f cdv A outer s H E).nox (defBody st) t wt ∧
        ∀ o ds P', ds.length = n → T o ds P' → wt (startO N o ds) { nx := fun ρ => objAt ρ 0 fun o' => o'.p = o.p ∧ o'.Go ∧ P' .none o', rt := fun d ρ => objAt ρ 0 fun o' => o'.p = o.p ∧ o'.Go ∧ P' d o' }) :
    FnOk P w K mg base (L2.CX P w) (k + 1) f fd ps (spO K n T) := by
  refine Fn.okX Sc (fun vs H Q E h => (spO_len vs H Q E h).trans hn.symm) fun cdv A outer s H vs Q E hr hsp => ?_
  obtain ⟨t, wt, hb, hw⟩ := hbody cdv A outer s H E hr
  refine ⟨t, hb.ps.nox, ?_⟩
  obtain ⟨S, o, vr, ds, P', rfl, sm, fo, oat, es, lo, hd, hl, hT, q⟩ := hsp
  have R := rep_startO N sm fo oat es lo hd
  have fin : ∀ (d : PyData) (v : V) (ρ' : En) (σ' : L2.St) (S' H' : Hp), (objAt ρ' 0 fun o' => o'.p = o.p ∧ o'.Go ∧ P' d o') → Rep K ⟨H, fun b => o.M b ∨ Tb b, S⟩ S' H' σ' ρ' → Same S S' → Dq K S' v d → Q v H' := fun d v ρ' σ' S' H' ho R' s' hd' => by
    obtain ⟨o', ei, ep, go, hp⟩ := ho.out
    obtain ⟨D, oat'⟩ := endO ei ep s' R'
    exact q d o' v S' H' hp D oat' go.lo hd'
  exact hb.sd _ _ _ _ S H _ (hw o ds P' hl hT) R ⟨fun ρ' σ' S' H' h R' s' => fin .none .non ρ' σ' S' H' h R' s' .non, fun d ρ' v σ' S' H' h R' s' hd' => fin d v ρ' σ' S' H' h R' s' hd', fun _ _ _ _ h _ _ => h.elim, fun _ _ _ _ h _ _ => h.elim, fun _ _ _ _ _ _ _ h _ _ _ _ => h.elim⟩
/-- .. where no repr is under way -/
theorem fnOG {x qual : Str} {st : Stmt} {f : Addr} {fd : FuncData} {N ps : List Str} {k n : Nat} {T : TSo} (Fn : Fun K x qual st f fd) (Sc : FnScope N ps (defScope st)) (hn : ps.length = n + 1)
    (hbody : ∀ (cdv : Value) (A : Around) (outer : List Env) (s : Shared) (H : Hp) (E : XK), A.guards = some [] → Room k (A.deeper (envOfC qual (defScope st) s.heap.objs.size f cdv)) →
      ∃ t wt, SVs (cxOf (L2.CX P w) P w K mg base N qual (defScope st) f cdv A outer s H E).nox (defBody st) t wt ∧
        ∀ o ds P', ds.length = n → T o ds P' → wt (startO N o ds) { nx := fun ρ => objAt ρ 0 fun o' => o'.p = o.p ∧ o'.Go ∧ P' .none o', rt := fun d ρ => objAt ρ 0 fun o' => o'.p = o.p ∧ o'.Go ∧ P' d o' }) :
    FnG P w K mg base (k + 1) f fd ps (spO K n T) := by
  refine Fun.okG Fn Sc (fun vs H Q E h => (spO_len vs H Q E h).trans hn.symm) fun cdv A outer s H vs Q E hgd hr hsp => ?_
  obtain ⟨t, wt, hb, hw⟩ := hbody cdv A outer s H E hgd hr
  refine ⟨t, hb.ps.nox, ?_⟩
  obtain ⟨S, o, vr, ds, P', rfl, sm, fo, oat, es, lo, hd, hl, hT, q⟩ := hsp
  have R := rep_startO N sm fo oat es lo hd
  have fin : ∀ (d : PyData) (v : V) (ρ' : En) (σ' : L2.St) (S' H' : Hp), (objAt ρ' 0 fun o' => o'.p = o.p ∧ o'.Go ∧ P' d o') → Rep K ⟨H, fun b => o.M b ∨ Tb b, S⟩ S' H' σ' ρ' → Same S S' → Dq K S' v d → Q v H' := fun d v ρ' σ' S' H' ho R' s' hd' => by
    obtain ⟨o', ei, ep, go, hp⟩ := ho.out
    obtain ⟨D, oat'⟩ := endO ei ep s' R'
    exact q d o' v S' H' hp D oat' go.lo hd'
  exact hb.sd _ _ _ _ S H _ (hw o ds P' hl hT) R ⟨fun ρ' σ' S' H' h R' s' => fin .none .non ρ' σ' S' H' h R' s' .non, fun d ρ' v σ' S' H' h R' s' hd' => fin d v ρ' σ' S' H' h R' s' hd', fun _ _ _ _ h _ _ => h.elim, fun _ _ _ _ h _ _ => h.elim, fun _ _ _ _ _ _ _ h _ _ _ _ => h.elim⟩
end
/-! ### calls -/
def wCallO (i n : Nat) (T : TSo) (wa : WA) : W1 := fun ρ P => objAt ρ i fun _ => wa ρ fun ds ρ1 => ds.length = n ∧ objAt ρ1 i fun o => o.Go ∧ T o ds fun d o' => P d (ρ1.set i (.obj o'))
def wMethO (C : Addr) (m : Str) (i n : Nat) (T : TSo) (wa : WA) : W1 := fun ρ P => insAt ρ i C fun _ fs _ _ => fs.lookup m = none ∧ wa ρ fun ds ρ1 => ds.length = n ∧ objAt ρ1 i fun o => o.Go ∧ T o ds fun d o' => P d (ρ1.set i (.obj o'))
theorem snd_spO {K : PySem.W.Frag} {F : Fm} {S H : Hp} {σ : L2.St} {ρ : En} {P : PyData → En → Prop} {Q : VK} {vs : List V} {ds : List PyData} {i n : Nat} {o : Ob} {T : TSo} {E : XK} (R : Rep K F S H σ ρ) (e : ρ[i]? = some (.obj o)) (go : o.Go) (hd : DqAll K S vs ds) (hn : ds.length = n) (hT : T o ds fun d o' => P d (ρ.set i (.obj o')))
    (q : ∀ d ρ' v S' H', P d ρ' → Rep K F S' H' σ ρ' → Same S S' → Dq K S' v d → Q v H') : spO K n T (.ref o.p :: vs) H Q E := by
  obtain ⟨g1, g2, g3, g4⟩ := R.obj.at_ i o e
  exact ⟨S, o, vs, ds, _, rfl, R.sub, R.found, g2, fun b hb => (g3 b hb).1, go.lo, hd, hn, hT, fun d o' v S' H' hp D oat lo' hv =>
    q d _ v S' H' hp (R.mutO e D.sm D.sub D.fresh D.keep D.live D.tok D.ep oat D.hM (lo' _)) D.sm hv⟩
section
variable {X : Cx} {k n : Nat} {f C : Addr} {fd : FuncData} {ps : List Str} {T : TSo} {x y m : Str} {p pos py apos : Pos} {e : Expr} {es : List Expr} {t : TA} {wa : WA}
theorem snd_callO {K : PySem.W.Frag} (i n : Nat) {T : TSo} {t : TA} {wa : WA} (ha : SndA K t wa) : Snd K (tCall (spO K n T) [] E0 (tCons (tVar i) t)) (wCallO i n T wa) := fun F ρ P σ S H Q hw R q => by
  obtain ⟨o0, e0, hw⟩ := hw.out
  obtain ⟨z1, _⟩ := R.obj.at_ i o0 e0
  refine ⟨.ref o0.p, z1, ha F ρ _ σ S H _ hw R fun ds ρ1 vs S1 H1 h1 R1 s1 d1 => ?_⟩
  obtain ⟨hn, h1⟩ := h1
  obtain ⟨o, e1, go, hT⟩ := h1.out
  obtain ⟨z2, _⟩ := R1.obj.at_ i o e1
  rw [z1] at z2
  have ep : o0.p = o.p := by
    injection z2 with z2
    injection z2 with z2
    injection z2
  rw [List.append_nil, ep]
  exact snd_spO R1 e1 go d1 hn hT fun d ρ' v S' H' hp R' sm hv => q d ρ' v S' H' hp R' (s1.trans sm) hv
/-- f(x, ..), x a slot's thing -/
theorem ev_callO (i : Nat) (G : FnOk X.prog X.w X.K X.mg X.base (L2.CX X.prog X.w) k f fd ps (spO X.K n T)) (hr : Room k X.A) (hm : X.mg x = some (.ref f)) (hk : PySem.W.keepIn X.K (.ref f) = true) (hb : Binds X.K fd ps []) (ha : EA X es t wa)
    (hN : X.N[i]? = some y := by rfl) (hv : Vis X.env.scope y := by first | exact Or.inl rfl | exact Or.inr (Or.inl rfl) | exact Or.inr (Or.inr rfl)) (hd : (y == ("__debug__" : Str)) = false := by decide) (hcd : (y == ("__classdict__" : Str)) = false := by decide)
    (hg : Gl X x := by rfl) (hdb : (x == ("__debug__" : Str)) = false := by decide) (he : starEach (.Name y py :: es) X.env = (false, eval (.Name y py) X.env) :: starEach es X.env := by rfl) (hpl : (backTo pos (starEach es X.env)).any (·.1) = false := by rfl) :
    EV X (.Call (.Name x p) (.Name y py :: es) [] pos) (tCall (spO X.K n T) [] E0 (tCons (tVar i) t)) (wCallO i n T wa) :=
  ⟨pe_call G hr hg hm hk hb .nil passL (pa_cons (pe_var hN hv hd hcd) ha.pa he) hdb he hpl, snd_callO i n ha.sd⟩
theorem ev_callOG (i : Nat) (G : FnG X.prog X.w X.K X.mg X.base k f fd ps (spO X.K n T)) (hgd : X.A.guards = some []) (hr : Room k X.A) (hm : X.mg x = some (.ref f)) (hk : PySem.W.keepIn X.K (.ref f) = true) (hb : Binds X.K fd ps []) (ha : EA X es t wa)
    (hN : X.N[i]? = some y := by rfl) (hv : Vis X.env.scope y := by first | exact Or.inl rfl | exact Or.inr (Or.inl rfl) | exact Or.inr (Or.inr rfl)) (hd : (y == ("__debug__" : Str)) = false := by decide) (hcd : (y == ("__classdict__" : Str)) = false := by decide)
    (hg : Gl X x := by rfl) (hdb : (x == ("__debug__" : Str)) = false := by decide) (he : starEach (.Name y py :: es) X.env = (false, eval (.Name y py) X.env) :: starEach es X.env := by rfl) (hpl : (backTo pos (starEach es X.env)).any (·.1) = false := by rfl) :
    EV X (.Call (.Name x p) (.Name y py :: es) [] pos) (tCall (spO X.K n T) [] E0 (tCons (tVar i) t)) (wCallO i n T wa) :=
  ⟨pe_callG G hgd hr hg hm hk hb (pa_cons (pe_var hN hv hd hcd) ha.pa he) hdb he hpl, snd_callO i n ha.sd⟩
theorem snd_methO {K : PySem.W.Frag} {C : Addr} {m : Str} (i n : Nat) {T : TSo} {t : TA} {wa : WA} (ha : SndA K t wa) : Snd K (tMeth C m (spO K n T) [] E0 (tVar i) t) (wMethO C m i n T wa) := fun F ρ P σ S H Q hw R q => by
  obtain ⟨p, fs, q0, kv, e0, hm, hw⟩ := hw.out
  obtain ⟨z1, ⟨⟨dx, fs', k1, k2⟩, _⟩, _⟩ := R.obj.at_ i _ e0
  refine ⟨.ref p, z1, p, dx, fs', rfl, k1, k2.no hm, ha F ρ _ σ S H _ hw R fun ds ρ1 vs S1 H1 h1 R1 s1 d1 => ?_⟩
  obtain ⟨hn, h1⟩ := h1
  obtain ⟨o, e1, go, hT⟩ := h1.out
  obtain ⟨z2, _⟩ := R1.obj.at_ i o e1
  rw [z1] at z2
  have ep : p = o.p := by
    injection z2 with z2
    injection z2 with z2
    injection z2
  rw [List.append_nil, ep]
  exact snd_spO R1 e1 go d1 hn hT fun d ρ' v S' H' hp R' sm hv => q d ρ' v S' H' hp R' (s1.trans sm) hv
/-- o.m(e, ..) -/
theorem ev_methO {pl : Sem Bool} (i : Nat) (G : FnOk X.prog X.w X.K X.mg X.base (L2.CX X.prog X.w) k f fd ps (spO X.K n T)) (hr : Room k X.A) (c : Cls X.K C) (hm : Meth X.K C m f) (hb : Binds X.K fd ps []) (ha : EA X (e :: es) t wa)
    (hN : X.N[i]? = some y := by rfl) (hv : Vis X.env.scope y := by first | exact Or.inl rfl | exact Or.inr (Or.inl rfl) | exact Or.inr (Or.inr rfl)) (hd : (y == ("__debug__" : Str)) = false := by decide) (hcd : (y == ("__classdict__" : Str)) = false := by decide)
    (he : starEach (e :: es) X.env = (false, eval e X.env) :: starEach es X.env := by rfl) (hpl : (backTo pos (starEach es X.env)).any (·.1) = false := by rfl)
    (ht : eval (.Call (.Attribute (.Name y py) m apos) (e :: es) [] pos) X.env = (do
      let ov ← eval (.Name y py) X.env
      standAt apos.atName
      let (f, first) ← holding [ov] (getMethod ov m pl)
      callWith pos f first (backTo pos (starEach (e :: es) X.env)) (backToKw pos (keywordEach [] X.env))) := by rfl) :
    EV X (.Call (.Attribute (.Name y py) m apos) (e :: es) [] pos) (tMeth C m (spO X.K n T) [] E0 (tVar i) t) (wMethO C m i n T wa) :=
  ⟨pe_meth (pe_var hN hv hd hcd) c hm G hr hb .nil passL ha.pa he hpl ht, snd_methO i n ha.sd⟩
/-- o.m() -/
theorem ev_methO0 {pl : Sem Bool} (i : Nat) (G : FnOk X.prog X.w X.K X.mg X.base (L2.CX X.prog X.w) k f fd ps (spO X.K 0 T)) (hr : Room k X.A) (c : Cls X.K C) (hm : Meth X.K C m f) (hb : Binds X.K fd ps [])
    (hN : X.N[i]? = some y := by rfl) (hv : Vis X.env.scope y := by first | exact Or.inl rfl | exact Or.inr (Or.inl rfl) | exact Or.inr (Or.inr rfl)) (hd : (y == ("__debug__" : Str)) = false := by decide) (hcd : (y == ("__classdict__" : Str)) = false := by decide)
    (ht : eval (.Call (.Attribute (.Name y py) m apos) [] [] pos) X.env = (do
      let ov ← eval (.Name y py) X.env
      standAt apos.atName
      let (f, first) ← holding [ov] (getMethod ov m pl)
      callWith pos f first (backTo pos (starEach [] X.env)) (backToKw pos (keywordEach [] X.env))) := by rfl) :
    EV X (.Call (.Attribute (.Name y py) m apos) [] [] pos) (tMeth C m (spO X.K 0 T) [] E0 (tVar i) tNil) (wMethO C m i 0 T wNil) :=
  ⟨pe_meth0 (pe_var hN hv hd hcd) c hm G hr hb .nil passL ht, snd_methO i 0 ea_nil.sd⟩
end
/-! ### a new thing -/
abbrev WB := En → (Ob → En → Prop) → Prop
def SndB (K : PySem.W.Frag) (t : TE) (w : WB) : Prop :=
  ∀ (F : Fm) (ρ : En) (P : Ob → En → Prop) (σ : L2.St) (S H : Hp) (Q : VK), w ρ P → Rep K F S H σ ρ →
    (∀ o ρ' S' H', P o ρ' → Rep K F S' H' σ ρ' → Same S S' → BareO K F S' H' ρ' o → Q (.ref o.p) H') → t σ H Q
structure EB (X : Cx) (e : Expr) (t : TE) (w : WB) : Prop where
  pe : PE X e t
  sd : SndB X.K t w
/-- C(e, ..), dd the values of what is left out -/
def wMake (C : Addr) (n : Nat) (T : TSo) (dd : List PyData) (wa : WA) : WB := fun ρ P => wa ρ fun ds ρ1 => ds.length + dd.length = n ∧ ∀ x, T (.ins x C [] 0 none) (ds ++ dd) fun d o' => d = .none ∧ P o' ρ1
theorem same_laid {S H : Hp} (R : Same S H) {a : Addr} {o : HO} (n : H a = none) : Same S (upd H a o) := fun b x e => by
  rw [upd_ne (ne_of_none (R b x e) n)]
  exact R b x e
section
variable {X : Cx} {k n : Nat} {f C : Addr} {fd : FuncData} {ps : List Str} {T : TSo} {x : Str} {p pos : Pos} {e : Expr} {es : List Expr} {t : TA} {wa : WA} {dds : List Value} {dvs : List V} {dd : List PyData}
theorem eb_make (M : Mk X.K C f) (G : FnOk X.prog X.w X.K X.mg X.base (L2.CX X.prog X.w) k f fd ps (spO X.K n T)) (hr : Room (k + 1) X.A) (hm : X.mg x = some (.ref C)) (hb : Binds X.K fd ps dds) (hd : Vals dvs dds) (hdd : ∀ S, DqAll X.K S dvs dd) (ha : EA X (e :: es) t wa)
    (hg : Gl X x := by rfl) (hdb : (x == ("__debug__" : Str)) = false := by decide) (he : starEach (e :: es) X.env = (false, eval e X.env) :: starEach es X.env := by rfl) (hpl : (backTo pos (starEach es X.env)).any (·.1) = false := by rfl) :
    EB X (.Call (.Name x p) (e :: es) [] pos) (tMake C (spO X.K n T) dvs E0 t) (wMake C n T dd wa) := ⟨pe_make M G hr hg hm hb hd passL ha.pa hdb he hpl, fun F ρ P σ S H Q hw R q =>
  ha.sd F ρ _ σ S H _ hw R fun ds ρ1 vs S1 H1 h1 R1 s1 d1 => by
    intro a dx na ndx nad
    obtain ⟨hn, hT⟩ := h1
    have nd' : upd H1 dx (.own a) a = none := by rw [upd_ne nad.symm]; exact na
    have sa : S1 a = none := same_none R1.sub na
    refine ⟨S1, .ins a C [] 0 none, vs ++ dvs, ds ++ dd, _, rfl, same_laid (same_laid R1.sub ndx) nd', ⟨(R1.tok.same (same_new ndx)).same (same_new nd'), R1.found.off⟩, ⟨⟨dx, [], upd_same, .nil⟩, fun l z => by cases z⟩, fun b hb => ?_, fun _ => trivial, d1.append (hdd S1), by rw [List.length_append]; exact hn, hT a, fun d o' v S' H' hp D oat lo hv => ?_⟩
    · rcases hb with rfl | ⟨hb, _⟩
      · exact sa
      · exact absurd rfl hb
    obtain ⟨rfl, hp⟩ := hp
    cases hv
    have none' : ∀ b, upd (upd H1 dx (.own a)) a (.ins C dx []) b = none → H1 b = none := fun b hb => by
      have ba : b ≠ a := fun z => by rw [z, upd_same] at hb; cases hb
      have bd : b ≠ dx := fun z => by rw [upd_ne ba, z, upd_same] at hb; cases hb
      rw [upd_ne ba, upd_ne bd] at hb
      exact hb
    have lf : Left H1 H' := ⟨fun b y nt hy => D.keep b y (fun hb => ?_) nt (by rw [upd_ne (ne_of_none hy na), upd_ne (ne_of_none hy ndx)]; exact hy), D.tok⟩
    · have R2 := R1.after D.sm D.sub (fun b h1 h2 => none' b (D.fresh b h1 h2)) lf
      have key : ∀ b, o'.M b → S' b = none ∧ (b = a ∨ H1 b = none) := fun b hb => by
        obtain ⟨z1, z2⟩ := D.hM b hb
        refine ⟨z1, ?_⟩
        rcases z2 with (rfl | ⟨z2, _⟩) | z2
        · exact .inl rfl
        · exact absurd rfl z2
        · exact .inr (none' b z2)
      have key2 : ∀ b, o'.M b → H1 b = none := fun b hb => (key b hb).2.elim (fun z => z ▸ na) id
      refine ⟨rfl, ?_⟩
      have ep : o'.p = a := D.ep
      rw [← ep]
      refine q o' ρ1 S' H' hp R2 (s1.trans D.sm) ⟨oat, fun b hb => ⟨(key b hb).1, R1.h0 (key2 b hb)⟩, fun j o2 ej b hb hb2 => ?_, o'.mp⟩
      obtain ⟨y, hy, _⟩ := R1.oSolid ej hb
      rw [key2 b hb2] at hy
      cases hy
    · rcases hb with rfl | ⟨hb, _⟩
      · rw [na] at hy
        cases hy
      · exact hb rfl⟩
/-- .. it stands still from now on -/
def valsOf : List (Str × Fv) → Option (List (Str × PyData))
  | [] => some []
  | (f, .val d) :: r => (valsOf r).map ((f, d) :: ·)
  | (_, .dic) :: _ => none
theorem Fields.vals {K : PySem.W.Frag} {S : Hp} {q : Addr} : ∀ {fs : List (Str × V)} {gs : List (Str × Fv)} {ds : List (Str × PyData)}, Fields K S q fs gs → valsOf gs = some ds → fs.map Prod.fst = ds.map Prod.fst ∧ DqAll K S (fs.map Prod.snd) (ds.map Prod.snd)
  | _, _, _, .nil, e => by
    cases e
    exact ⟨rfl, .nil⟩
  | _, _, ds, .cons (f := g) (v := v) (x := y) (gs := gs) h1 h2, e => by
    cases y with
    | dic => cases e
    | val d =>
      have e' : (valsOf gs).map ((g, d) :: ·) = some ds := e
      obtain ⟨r, hr, rfl⟩ := Option.map_eq_some_iff.mp e'
      obtain ⟨k1, k2⟩ := Fields.vals h2 hr
      exact ⟨by rw [List.map_cons, List.map_cons, k1], .cons h1 k2⟩
def wStill (wb : WB) : W1 := fun ρ P => wb ρ fun o ρ1 => ∃ p C fs q ds, o = .ins p C fs q none ∧ valsOf fs = some ds ∧ P (obT C ds) ρ1
theorem EB.ev {e : Expr} {t : TE} {wb : WB} (h : EB X e t wb) : EV X e t (wStill wb) := ⟨h.pe, fun F ρ P σ S H Q hw R q => h.sd F ρ _ σ S H Q hw R fun o ρ1 S1 H1 h1 R1 s1 B => by
  obtain ⟨a, C', fs, q0, ds, rfl, hv, hp⟩ := h1
  obtain ⟨⟨dx, fs', k1, k2⟩, _⟩ := B.at_
  obtain ⟨sa, ha⟩ := B.s a (.inl rfl)
  have sn : Same S1 (upd S1 a (.ins C' dx fs')) := same_new sa
  obtain ⟨e1, e2⟩ := (k2.mono sn).vals hv
  refine q _ ρ1 (.ref a) _ H1 hp (R1.stillO k1 .ins sa ha (fun z => R1.m0 a z ha) fun j o2 ej z => B.ap j o2 ej a z (.inl rfl)) (s1.trans sn) (.ob upd_same e2 ?_)
  rw [e1]⟩
/-- x = C(..) -/
def wSetB (i : Nat) (wb : WB) : WS := fun ρ N => wb ρ fun o ρ1 => N.nx (ρ1.set i (.obj o))
theorem sv_setB (i : Nat) {y : Str} {pos' : Pos} {e : Expr} {t : TE} {wb : WB} (hN : X.N.Nodup) (he : EB X e t wb) (hi : X.N[i]? = some y := by rfl) (hx : Loc X.env.scope y := by first | exact Or.inl rfl | exact Or.inr rfl) (hs : swapsWith e (some (.Name y pos')) pos.line X.env = pure false := by rfl) (hf : X.fn y = true ∨ X.env.scope.names.lookup y = some .local := by first | exact .inl rfl | exact .inr rfl | assumption) :
    SV X (.Assign [.Name y pos'] e pos) (tAsg t (gName i)) (wSetB i wb) := ⟨ps_set hN hi hx he.pe hs hf, fun F ρ N σ S H D hw R T =>
  he.sd F ρ _ σ S H _ hw R fun o ρ1 S1 H1 hp R1 s1 B => T.nx _ _ S1 H1 hp (R1.setO i B) s1⟩
/-- x, y = C(..), C(..) -/
def wParB (i j : Nat) (wa wb : WB) : WS := fun ρ N => wa ρ fun o1 ρ1 => wb ρ1 fun o2 ρ2 => N.nx ((ρ2.set i (.obj o1)).set j (.obj o2))
theorem sv_parB (i j : Nat) {y z : Str} {a b : Expr} {ta tb : TE} {wa wb : WB} {py pz pt : Pos} {kt k2 : Nat} {pt2 : Pos} (hc : X.calm = true) (hN : X.N.Nodup) (ha : EB X a ta wa) (hb : EB X b tb wb) (hi : X.N[i]? = some y := by rfl) (hj : X.N[j]? = some z := by rfl) (hij : i ≠ j := by decide)
    (hx : X.env.scope.names.lookup y = some .local := by rfl) (hy : X.env.scope.names.lookup z = some .local := by rfl)
    (hw : swappedStores [.Tuple [.Name y py, .Name z pz] kt pt] (.Tuple [a, b] k2 pt2) X.env = pure (some [y, z]) := by rfl)
    (hs : swapsWithSole [.Tuple [.Name y py, .Name z pz] kt pt] (.Tuple [a, b] k2 pt2) pos.line X.env = pure false := by rfl)
    (h1 : starEach [a, b] X.env = (false, eval a X.env) :: starEach [b] X.env := by rfl) (h2 : starEach [b] X.env = (false, eval b X.env) :: starEach [] X.env := by rfl) :
    SV X (.Assign [.Tuple [.Name y py, .Name z pz] kt pt] (.Tuple [a, b] k2 pt2) pos) (tPar i j (tCons ta (tCons tb tNil))) (wParB i j wa wb) :=
  ⟨ps_par hc hN hi hj hij hx hy (pa_cons ha.pe (pa_cons hb.pe pa_nil h2) h1) hw hs, fun F ρ N σ S H D hw R T =>
  ha.sd F ρ _ σ S H _ hw R fun o1 ρ1 S1 H1 q1 R1 s1 B1 => hb.sd (F.holdO H1 o1) ρ1 _ σ S1 H1 _ q1 (R1.holdO B1) fun o2 ρ2 S2 H2 q2 R2 s2 B2 => by
    obtain ⟨R3, B3⟩ := R2.unholdO (B1.out R1) B1.at_ s2
    have dis : ∀ b, o2.M b → ¬ o1.M b := fun b hb z => by
      have e := (B2.s b hb).2
      rw [holdO_in z] at e
      obtain ⟨x, hx, _⟩ := B1.at_.live b z
      rw [e] at hx
      cases hx
    have B4 : BareO X.K F S2 H2 (ρ2.set i (.obj o1)) o2 := ⟨B2.at_, fun b hb => ⟨(B2.s b hb).1, by
      have e := (B2.s b hb).2
      rw [holdO_out (dis b hb)] at e
      exact e⟩, fun m o3 e b hb z => ?_, B2.pm⟩
    · exact ⟨.ref o1.p, .ref o2.p, rfl, T.nx _ _ S2 H2 q2 ((R3.setO i B3).setO j B4) (s1.trans s2)⟩
    · rcases get_set e with ⟨rfl, e, _⟩ | ⟨_, e⟩
      · cases e
        exact dis b z hb
      · exact B2.ap m o3 e b hb z⟩
end
end Tr
set_option Elab.async false
set_option linter.all false
set_option maxRecDepth 100000
set_option maxHeartbeats 2000000
/-! TrO4: a method with defaults (its first argument a thing); how two defaults None bind -/
namespace Tr
open PySem PySem.Spec PyProof.Rows L2
variable [Tabbed]
section
variable {P : Program} {w : World} {K : PySem.W.Frag} {mg : Str → Option Value} {base : Heap}
/-- THE RULE for a def with defaults whose first argument is a thing -/
theorem fnOD {x qual : Str} {st : Stmt} {f : Addr} {fd : FuncData} {N ps : List Str} {k n : Nat} {T : TSo} {dvs : List V} {kws : List (Str × V)} (Fn : L2.FunD K x qual (defArgs st) (defBody st) (defScope st) dvs kws f fd) (Sc : FnScope N ps (defScope st)) (hn : ps.length = n + 1)
    (hbody : ∀ (cdv : Value) (A : Around) (outer : List Env) (s : Shared) (H : Hp) (E : XK), Room k (A.deeper (envOfC qual (defScope st) s.heap.objs.size f cdv)) →
      ∃ t wt, SVs (cxOf (L2.CX P w) P w K mg base N qual (defScope st) f cdv A outer s H E).nox (defBody st) t wt ∧
        ∀ o ds P', ds.length = n → T o ds P' → wt (startO N o ds) { nx := fun ρ => objAt ρ 0 fun o' => o'.p = o.p ∧ o'.Go ∧ P' .none o', rt := fun d ρ => objAt ρ 0 fun o' => o'.p = o.p ∧ o'.Go ∧ P' d o' }) :
    FnOk P w K mg base (L2.CX P w) (k + 1) f fd ps (spO K n T) := by
  refine Fn.ok Sc (fun vs H Q E h => (spO_len vs H Q E h).trans hn.symm) fun cdv A outer s H vs Q E hr hsp => ?_
  obtain ⟨t, wt, hb, hw⟩ := hbody cdv A outer s H E hr
  refine ⟨t, hb.ps.nox, ?_⟩
  obtain ⟨S, o, vr, ds, P', rfl, sm, fo, oat, es, lo, hd, hl, hT, q⟩ := hsp
  have R := rep_startO N sm fo oat es lo hd
  have fin : ∀ (d : PyData) (v : V) (ρ' : En) (σ' : L2.St) (S' H' : Hp), (objAt ρ' 0 fun o' => o'.p = o.p ∧ o'.Go ∧ P' d o') → Rep K ⟨H, fun b => o.M b ∨ Tb b, S⟩ S' H' σ' ρ' → Same S S' → Dq K S' v d → Q v H' := fun d v ρ' σ' S' H' ho R' s' hd' => by
    obtain ⟨o', ei, ep, go, hp⟩ := ho.out
    obtain ⟨D, oat'⟩ := endO ei ep s' R'
    exact q d o' v S' H' hp D oat' go.lo hd'
  exact hb.sd _ _ _ _ S H _ (hw o ds P' hl hT) R ⟨fun ρ' σ' S' H' h R' s' => fin .none .non ρ' σ' S' H' h R' s' .non, fun d ρ' v σ' S' H' h R' s' hd' => fin d v ρ' σ' S' H' h R' s' hd', fun _ _ _ _ h _ _ => h.elim, fun _ _ _ _ h _ _ => h.elim, fun _ _ _ _ _ _ _ h _ _ _ _ => h.elim⟩
end
end Tr
set_option Elab.async false
set_option linter.all false
set_option maxRecDepth 100000
set_option maxHeartbeats 2000000
/-! TrQ: dicts whose keys are tuples: filled by a comprehension, walked by their items -/
namespace Tr
open PySem PySem.Spec PyProof.Rows L2
variable [Tabbed]
theorem put_tup {X : Cx} {pins : List (Addr × Obj)} {σ : L2.St} {G : Hp} {t : Shared} {E : Value → Shared → Prop} {D a : Addr} {kvs : List (List Key × V)} {k : List Key} {v : V} {r : Value} {Q : Unit → Shared → Prop}
    (hu : X.A.units + 1 < cLine) (I : Inv X pins σ G t) (hD : G D = some (.dT kvs)) (ha : G a = some (.tup (k.map kV))) (hz : kvs.length < sizeLine) (rv : RelV v r) (h : ∀ t', Inv X pins σ (upd G D (.dT (putK kvs k v))) t' → Q () t') :
    wpAny (model X.prog X.w) X.A (dictSet D (.ref a) r) Q E t := by
  obtain ⟨z, hd, xs, rel, dd⟩ := dt_of I.hok hD
  have zx : xs.length ≤ sizeLine := by rw [← Paired.length rel]; exact z
  have zl : (putK kvs k v).length ≤ sizeLine := by
    have := length_putK kvs k v
    omega
  refine wpAny_dictSet_heap (knd := tupleKind (mixKind X.prog X.w)) (hsz := zx) (show X.A.units < cLine by omega) (key_of I.hok ha) dd fun h' new sb => h _ ?_
  obtain ⟨q, es, ep, hq, n2, n3, n4, _, n5⟩ := new
  refine d_write I (by rw [hD]; exact True.intro) sb ⟨q, hq⟩ ⟨zl, hd, _, (rel.put k ha rv).keeps fun c ys ec => ?_, q, es, ep, hq, n2, n3, n4, n5⟩
  have nc : c ≠ D := ne_of ec hD (fun w => nomatch w)
  rw [upd_ne nc, ec]
/-- {key: value for ..}, a new dict with tuples for keys -/
def tDcT (wi : TI) (g : TG) (tt : TT) (tk tv : TE) (ws : List Nat) : TE := fun σ G0 Q => wi σ G0 fun J G1 => ∀ D, G1 D = none → ∃ W : Nat → Nat → Hp → Prop, (∃ m, W 0 m (upd G1 D (.dT []))) ∧ ∀ i m G, W i m G →
  (J.stop i G ∧ Q (.ref D) G) ∨ (J.go i G ∧ ∃ Nx : Hp → Prop, (∀ G', Nx G' → ∃ m', m' < m ∧ W (i + 1) m' G') ∧ ∀ x G', J.yld i G x G' → g x (wipe σ ws) G' fun σ2 G2 => wipe σ2 ws = wipe σ ws ∧ tt σ2 G2 fun b G3 =>
    if b = true then tk σ2 G3 fun y G4 => tv σ2 G4 fun z G5 => ∃ kvs k a, y = .ref a ∧ G5 a = some (.tup (k.map kV)) ∧ G5 D = some (.dT kvs) ∧ kvs.length < sizeLine ∧ Nx (upd G5 D (.dT (putK kvs k z))) else Nx G3)
section
variable {X : Cx}
theorem pe_dcT {kx vx tg iter : Expr} {ifs : List Expr} {scope : Scope} {own : List (Str × Nat)} {pos : Pos} {wi : TI} {g : TG} {tt : TT} {tk tv : TE} (hu : X.A.units + 1 < cLine) (hc : X.calm = true) (hN : X.N.Nodup) (hi : PI X tg iter wi) (ok : BlkOk X.N X.env.scope scope own)
    (hg : ∀ (t : Shared) (G : Hp) (C : Addr) (cl : List (Str × Addr)) (fp : List Addr), PG (X.blk t G scope (compEnvC scope cl C X.env) fp) tg g) (ht : ∀ (t : Shared) (G : Hp) (C : Addr) (cl : List (Str × Addr)) (fp : List Addr), PTs (X.blk t G scope (compEnvC scope cl C X.env) fp) ifs tt)
    (hk : ∀ (t : Shared) (G : Hp) (C : Addr) (cl : List (Str × Addr)) (fp : List Addr), PE (X.blk t G scope (compEnvC scope cl C X.env) fp) kx tk)
    (he : ∀ (t : Shared) (G : Hp) (C : Addr) (cl : List (Str × Addr)) (fp : List Addr), PE (X.blk t G scope (compEnvC scope cl C X.env) fp) vx tv) (hs : ∀ x, foldedSetIterable iter X.env x = pure x := by intro _; rfl) :
    PE X (.DictComp kx vx [⟨tg, iter, ifs, 0⟩] scope pos) (tDcT wi g tt tk tv (own.map (·.2))) := by
  refine ⟨fun pins t0 σ G0 Q I h => ?_⟩
  rw [arm_eval_DictComp]
  have cells : ∀ y ∈ scope.names, y.2 = .free → ∃ c, X.env.cells.lookup y.1 = some c := fun y hy e => (ok.free y hy e).elim (fun k => I.ok.has _ (.inl k)) fun k => I.ok.has _ (.inr k)
  refine wpAny_comprehension_free rfl hs (closure_ok cells) ok.kind (fun y hy e => by rw [ok.uniq y hy, e]) (thn (hi.run pins t0 σ G0 _ I h) fun xv t1 hx => thn hx fun itv t2 h2 => ?_)
  obtain ⟨it, fp, tn, J, G2, rfl, I2, T, st2, f2, q⟩ := h2
  refine wpAny_newObj_type (newEnv_comp ?_)
  generalize hD : t2.heap.objs.size = D
  have nD : G2 D = none := I2.hok.fresh (Nat.le_of_eq hD)
  obtain ⟨W, ⟨m0, w0⟩, turn⟩ := q D nD
  have bound : ∀ b ∈ fp, b < t2.heap.objs.size := fun b hb => let ⟨_, e, _⟩ := T.obj _ _ st2 b hb; Heap.lt_size e
  generalize ht3 : ({ t2 with heap := t2.heap.push { cls := .type "dict", data := .dict #[] } } : Shared) = t3
  have h3 : t3.heap = t2.heap.push { cls := .type "dict", data := .dict #[] } := by rw [← ht3]
  have I3 : Inv X pins σ (upd G2 D (.dT [])) t3 := by
    rw [← ht3]
    refine I2.laid (t' := t2.toks) (fun b o e => Heap.get?_push_of_some _ e) (Nat.le_of_eq hD) ?_
    rw [← hD]
    exact dt_empty t2.heap I2.big
  have f3 : ∀ b ∈ fp, FpOk X pins (upd G2 D (.dT [])) b ∧ b < t3.heap.objs.size := fun b hb => by
    have hlt := bound b hb
    refine ⟨⟨?_, (f2 b hb).2⟩, by rw [h3, Heap.size_push]; exact Nat.lt_succ_of_lt hlt⟩
    rw [upd_ne (show b ≠ D by rw [← hD]; exact Nat.ne_of_lt hlt)]
    exact (f2 b hb).1
  have st3 : tn 0 t3.heap := T.keep _ _ _ st2 fun b _ o e => by rw [h3]; exact Heap.get?_push_of_some _ e
  have I4 := block_start I3 ok hN f3
  generalize hG3 : upd G2 D (.dT []) = G3 at I3 I4 w0 f3
  generalize hcells : cellsFrom (t3.heap.objs.size + 1) scope.names (cloFrom X.env.cells scope.names []) = cl at I4
  have pg := hg t3 G3 t3.heap.objs.size cl fp
  have pt := ht t3 G3 t3.heap.objs.size cl fp
  have pk := hk t3 G3 t3.heap.objs.size cl fp
  have pv := he t3 G3 t3.heap.objs.size cl fp
  have hsz3 : t3.heap.objs.size = (t2.heap.push { cls := .type "dict", data := .dict #[] }).objs.size := by rw [h3]
  generalize hce : compEnvC scope cl t3.heap.objs.size X.env = ce at I4 pg pt pk pv
  have cL : ce.locals = t3.heap.objs.size := by subst hce; rfl
  have nfp : ∀ b ∈ fp, G3 b = none := fun b hb => (f3 b hb).1.1
  generalize ht4 : ({ t3 with heap := pushCells (t3.heap.push { cls := .type "dict", data := .dict #[] }) scope.names } : Shared) = t4 at I4
  have st4 : tn 0 t4.heap := T.keep _ _ _ st3 fun b _ o e => by rw [← ht4]; exact pushCells_keeps _ _ _ _ (Heap.get?_push_of_some _ e)
  let B := X.blk t3 G3 scope ce fp
  have still : ∀ {σ' : L2.St} {G' : Hp} {t' : Shared}, Inv B [] σ' G' t' → (∀ b ∈ fp, G' b = none) → ∀ b ∈ fp, FpOk B [] G' b := fun {σ' G' t'} I' n b hb =>
    ⟨n b hb, (I'.ok.exf b hb).1, I'.ok.exfs b hb, .inl hb, fun x c e => (I'.ok.exf b hb).2 x c e, fun p hp => absurd (show p ∈ ([] : List (Addr × Obj)) ++ [] from hp) (by simp)⟩
  have loop : codeAny (model X.prog X.w) X.A (.compLoop (.DictComp kx vx [⟨tg, iter, ifs, 0⟩] scope pos) 0 (.ref it) (.ref D) ce) (compPost (model X.prog X.w) X.A X.xe none (EP X pins σ Q) (.ref D) t3.heap.objs.size) t4 := by
    refine compLoop_anyD (fun n t' => ∃ i G', Inv B [] (wipe σ (own.map (·.2))) G' t' ∧ tn i t'.heap ∧ (∀ b ∈ fp, G' b = none) ∧ W i n G') ?_ m0 ⟨0, G3, I4, st4, nfp, w0⟩
    rintro n t5 ⟨i, G5, I5, st5, n5, w5⟩
    rcases turn i n G5 w5 with ⟨stop, qq⟩ | ⟨go, Nx, hNx, step⟩
    · refine thnF (T.done B rfl rfl rfl hc i [] t5 _ G5 (fun _ _ => False) I5 (still I5 n5) st5 stop) fun r t6 ⟨hr, I6⟩ => ?_
      subst hr
      have nC : G5 t3.heap.objs.size = none := by
        have z : G5 ce.locals = none := I6.free
        rwa [cL] at z
      obtain ⟨m, hn, _⟩ := I6.loc
      replace hn : t6.heap.Ns ce.locals m := hn
      rw [cL] at hn
      have I7 : Inv X pins σ G5 t6 := I3.call' (ch := fp) I6.os I6.base I6.hok I6.bare fun b hb => let z := (f3 b hb).1; ⟨z.2.2.2.1, z.2.1, z.2.2.2.2.1, z.2.2.2.2.2⟩
      refine ⟨m, hn, fun h'' sb => ?_⟩
      obtain ⟨e0, e1, e2, e3, e4, e5⟩ := I3.fpOk (Nat.le_refl _) nC
      exact ⟨.ref D, G5, I7.turned (t' := t6.toks) (fun b o hb e => (sb.2 b hb).trans e) e0 e1 e3 e4 e5, rfl, qq⟩
    · refine thnF (T.item B rfl rfl rfl hc i [] t5 _ G5 (fun _ _ => False) I5 (still I5 n5) st5 go) fun r t6 ⟨u, hr, h6⟩ => ?_
      subst hr
      refine thnF h6 fun _ t7 ⟨x, G7, I7, r7, y7, st7, n7⟩ => ?_
      have I7' := I7.pinned (still I7 n7) (T.obj _ _ st7)
      refine thnF (pg.run _ t7 _ G7 x u _ I7' r7 (step x G7 y7)) fun _ t8 ⟨σ8, G8, I8, hw8, q8⟩ => ?_
      refine thnF (pt.run _ t8 σ8 G8 _ I8 q8) fun b t9 ⟨G9, I9, q9⟩ => ?_
      have fin : ∀ {t' : Shared} {G' : Hp}, Inv B ([] ++ pinsAt fp t7.heap) σ8 G' t' → Nx G' → ∃ m, m < n ∧ ∃ i G', Inv B [] (wipe σ (own.map (·.2))) G' t' ∧ tn i t'.heap ∧ (∀ b ∈ fp, G' b = none) ∧ W i m G' := fun {t' G'} I' nx => by
        obtain ⟨m', hm, w'⟩ := hNx G' nx
        have pin' : ∀ b ∈ fp, ∀ o, t7.heap.get? b = some o → t'.heap.get? b = some o ∧ G' b = none := fun b hb o e => by
          have z := I'.pin (b, o) (List.mem_append_right _ (List.mem_append_right _ (mem_pinsAt hb e)))
          exact ⟨z.1, z.2.1⟩
        have hl : (wipe σ (own.map (·.2))).length = σ8.length := by rw [← hw8, wipe_length]
        refine ⟨m', hm, i + 1, G', (I'.unpinned (pins := [])).weak hl (fun j v e => (wipe_some (by rw [← hw8] at e; exact e)).1), T.keep _ _ _ st7 fun b hb o e => (pin' b hb o e).1, fun b hb => ?_, w'⟩
        obtain ⟨o, e, _⟩ := T.obj _ _ st7 b hb
        exact (pin' b hb o e).2
      cases b with
      | false =>
        replace q9 : Nx G9 := by simpa using q9
        exact fin I9 q9
      | true =>
        rw [if_pos rfl] at q9 ⊢
        refine thnF (pk.run _ t9 σ8 G9 _ I9 q9) fun z t10 ⟨yk, G10, I10, r10, q10⟩ => ?_
        refine thnF (pv.run _ t10 σ8 G10 _ I10 q10) fun z2 t11 ⟨yv, G11, I11, r11, kvs, k, a, ek, ha11, hD11, hz11, nx⟩ => ?_
        subst ek
        obtain rfl : z = Value.ref a := r10
        exact put_tup (X := B) hu I11 hD11 ha11 hz11 r11 fun t12 I12 => fin I12 nx
  subst hce hcells ht4
  exact codeAny_compStart_dict loop (T.self X.A 0 _ _ _ st4 loop)
end
/-- the pairs of the locked dict at d, its keys tuples: each pair a new tuple -/
def Itit (d : Addr) (o : Obj) (kvs : List (List Key × V)) : It :=
  ⟨fun i G => G d = some (.frz o (.dT kvs)) ∧ i < kvs.length, fun i G x G' => ∃ T k v a, kvs[i]? = some (k, v) ∧ x = .ref T ∧ G T = none ∧ G a = some (.tup (k.map kV)) ∧ G' = upd G T (.tup [.ref a, v]), fun i G => G d = some (.frz o (.dT kvs)) ∧ kvs.length ≤ i⟩
theorem frz_dT {X : Cx} {pins : List (Addr × Obj)} {σ : L2.St} {G : Hp} {t : Shared} {d : Addr} {o : Obj} {es : Array DictEntry} {ep : Nat} {kvs : List (List Key × V)} (I : Inv X pins σ G t) (hd : G d = some (.frz o (.dT kvs))) (hod : o.data = .dict es ep) :
    (d == sysModules) = false ∧ DT.Raw t.heap d es ep ∧ es.size = kvs.length ∧ ∀ (i : Nat) (k : List Key) (v : V), kvs[i]? = some (k, v) → ∃ (en : DictEntry) (a : Addr), es[i]? = some en ∧ en.key = .ref a ∧ G a = some (.tup (k.map kV)) ∧ RelV v en.val := by
  obtain ⟨got, _, hs, xs, pr, o2, es2, ep2, got2, ex, dat, ents, _⟩ := I.hok d _ hd
  rw [got] at got2
  cases got2
  obtain ⟨rfl, rfl⟩ := dict_ep hod dat
  refine ⟨hs, ⟨o, got, ex, dat⟩, ?_, fun i k v e => ?_⟩
  · rw [size_of_entries ents]
    exact (Paired.length pr).symm
  · obtain ⟨b, hb, _, e2, e3⟩ := paired_get pr e
    have q := entry_at ents i
    rw [hb] at q
    exact ⟨_, b.2.1, q, rfl, e2, e3⟩
section
variable {P : Program} {w : World} {K : PySem.W.Frag} {d : Addr} {o : Obj} {es : Array DictEntry} {ep : Nat} {kvs : List (List Key × V)}
theorem turn_itemsT {elts : List Expr} {kk : Nat} {tpos : Pos} (it : Addr) (hod : o.data = .dict es ep) : Turn P w K (.Tuple elts kk tpos) (Itit d o kvs) [it] it (fun i h => ∃ ok ov, IsItemIter h it d i es.size ep ok ov) where
  mem := List.mem_singleton.mpr rfl
  obj := fun i h st b hb => by
    rw [List.mem_singleton.mp hb]
    obtain ⟨ok, ov, e⟩ := st
    exact ⟨_, e, fun v z => nomatch z⟩
  keep := fun i h h' st k => let ⟨ok, ov, e⟩ := st; ⟨ok, ov, k it (List.mem_singleton.mpr rfl) _ e⟩
  item := by
    intro X hP hw hK hc i pins t σ G E I hf st hg
    subst hP hw hK
    obtain ⟨hd, hi⟩ := hg
    obtain ⟨_, raw, hsz, ent⟩ := frz_dT I hd hod
    obtain ⟨⟨k, v⟩, hkv⟩ : ∃ p, kvs[i]? = some p := ⟨kvs[i], List.getElem?_eq_getElem hi⟩
    obtain ⟨en, a, hen, ek, ha, rv⟩ := ent i k v hkv
    have hie : i < es.size := by omega
    have eni : es[i] = en := by
      rw [Array.getElem?_eq_getElem hie] at hen
      exact Option.some.inj hen
    obtain ⟨ok, ov, hit⟩ := st
    have hlt : it < t.heap.objs.size := Heap.lt_size hit
    refine DT.nextI hit raw hie fun h1 out tup _ kp => ?_
    rw [eni] at out tup
    refine ⟨_, rfl, wpAny_letOwnedTupleGo_items (s := { t with heap := h1 }) out fun h2 hit2 sb => ?_⟩
    have tup2 : h2.get? t.heap.objs.size = some { cls := .type "tuple", data := .seq #[en.key, en.val] } := (sb.2 _ (Nat.ne_of_gt hlt)).trans tup
    have new : ObjOk X.prog X.w (upd G t.heap.objs.size (.tup [.ref a, v])) h2 t.heap.objs.size (.tup [.ref a, v]) :=
      ⟨by show 2 ≤ sizeLine; decide, [en.key, en.val], .cons (show RelV (.ref a) en.key from ek) (.cons rv .nil), ⟨_, tup2, rfl, _, rfl⟩⟩
    have fr : G t.heap.objs.size = none := I.hok.fresh (Nat.le_refl _)
    have I2 := I.turnedNew (t' := t.toks) (ch := [it]) (h' := h2) (fun b ob hb e => (sb.2 b (by simpa using hb)).trans (kp b ob (by simpa using hb) e)) hf (Nat.le_refl _) new
    refine ⟨.ref t.heap.objs.size, _, I2, rfl, ⟨_, k, v, a, hkv, rfl, fr, ha, rfl⟩, ⟨_, _, hit2⟩, fun b hb => ?_⟩
    rw [List.mem_singleton.mp hb, upd_ne (Nat.ne_of_lt hlt)]
    exact (hf it (List.mem_singleton.mpr rfl)).1
  done := by
    intro X hP hw hK hc i pins t σ G E I hf st hg
    subst hP hw hK
    obtain ⟨hd, hi⟩ := hg
    obtain ⟨g0, g1, g2, g3, g4, g5⟩ := hf it (List.mem_singleton.mpr rfl)
    obtain ⟨_, raw, hsz, _⟩ := frz_dT I hd hod
    obtain ⟨ok, ov, hit⟩ := st
    exact DT.endI (I.ok.hd hc) hit raw (by omega) fun h1 eb => ⟨rfl, I.turned (t' := t.toks) (fun b ob hb e => eb b ob hb e) g0 g1 g3 g4 g5⟩
  self := fun A i t Q E st h => let ⟨_, _, e⟩ := st; PySem.W.kcp_self e h
end
def iItemsT (td : TE) : TI := fun σ G R => td σ G fun x G1 => ∃ d o kvs, x = .ref d ∧ G1 d = some (.frz o (.dT kvs)) ∧ R (Itit d o kvs) G1
theorem pi_itemsT {X : Cx} {e : Expr} {td : TE} {apos cpos tpos : Pos} {elts : List Expr} {kk : Nat} (he : PE X e td) (hbase : attributeBase e "items" X.env (eval e X.env) = eval e X.env := by rfl) (hline : (apos.endLine == cpos.line) = true := by rfl) :
    PI X (.Tuple elts kk tpos) (.Call (.Attribute e "items" apos) [] [] cpos) (iItemsT td) := by
  refine ⟨fun pins t σ G R I h => ?_⟩
  refine wpAny_Call_method (T := "dict") (id := "dict.items") hbase rfl hline F.plainAttrs_dict F.slot_dict_items F.type_dict_items (thn (he.run pins t σ G _ I h) fun u t1 ⟨x, G1, I1, rx, d, o, kvs, ex, hd, q⟩ => ?_)
  subst ex
  obtain rfl : u = Value.ref d := rx
  obtain ⟨ty, nod, _⟩ := isD_at I1 (.inr ⟨kvs, .inr ⟨o, hd⟩⟩)
  obtain ⟨es, ep, hod⟩ : ∃ es ep, o.data = .dict es ep := by
    obtain ⟨got, _, _, _, _, o2, es2, ep2, got2, _, dat, _⟩ := I1.hok d _ hd
    rw [got] at got2
    cases got2
    exact ⟨_, _, dat⟩
  obtain ⟨hs, raw, hsz, _⟩ := frz_dT I1 hd hod
  refine ⟨ty, nod, ?_⟩
  have I2 : Inv X pins σ G1 { t1 with heap := t1.heap.push { cls := .type "dict_items", data := .fields #[.ref d] } } := I1.kept (t' := t1.toks) fun b ob q => Heap.get?_push_of_some _ q
  have fin : wpAny (model X.prog X.w) X.A (pyIter (.ref t1.heap.objs.size)) (PIE X pins σ (.Tuple elts kk tpos) R) X.xe { t1 with heap := t1.heap.push { cls := .type "dict_items", data := .fields #[.ref d] } } :=
    DT.iterI (d := d) ⟨_, Heap.get?_push_size _ rfl, rfl, rfl⟩ (raw.push _) (pi_one (tk := t1.toks) I2 _ (turn_itemsT _ hod) ⟨.none, .none, Heap.get?_push_size _ rfl⟩ q)
  show wpAny _ _ (callWith cpos (.builtin "dict.items") [.ref d] [] []) _ X.xe t1
  exact method_meetsIn F.slot_dict_items F.entry_dict_items rfl (PySem.evalArgs_none ⟨rfl, ty, F.args_dict_items_1 _, _, DT.meetsItems (es := es) (ep := ep) hs, raw, fin⟩)
end Tr
set_option Elab.async false
set_option linter.all false
set_option maxRecDepth 100000
set_option maxHeartbeats 2000000
/-! TrN: a list of lists that is looked at, and then its first list changed: what comes behind sees neither; a def that gives a new list, called for its value, by names -/
namespace Tr
open PySem PySem.Spec PyProof.Rows L2
variable [Tabbed]
def hide : Sl → Sl
  | .own _ _ => .un
  | s => s
def vw (ρ : En) : En := ρ.map hide
theorem vw_val {ρ : En} {i : Nat} {d : PyData} (h : (vw ρ)[i]? = some (.val d)) : ρ[i]? = some (.val d) := by
  unfold vw at h
  rw [List.getElem?_map] at h
  cases e : ρ[i]? with
  | none => rw [e] at h; cases h
  | some s =>
    rw [e] at h
    cases s <;> cases h
    rfl
theorem vw_dic {ρ : En} {i : Nat} {d : List (Str × PyData)} (h : (vw ρ)[i]? = some (.dic d)) : ρ[i]? = some (.dic d) := by
  unfold vw at h
  rw [List.getElem?_map] at h
  cases e : ρ[i]? with
  | none => rw [e] at h; cases h
  | some s =>
    rw [e] at h
    cases s <;> cases h
    rfl
theorem vw_own {ρ : En} {i : Nat} {m : Bool} {d : List PyData} (h : (vw ρ)[i]? = some (.own m d)) : False := by
  unfold vw at h
  rw [List.getElem?_map] at h
  cases e : ρ[i]? with
  | none => rw [e] at h; cases h
  | some s =>
    rw [e] at h
    cases s <;> cases h
/-- the heap has grown aside, tables too -/
theorem Rep.left {K : PySem.W.Frag} {F : Fm} {S H : Hp} {σ : L2.St} {ρ : En} (R : Rep K F S H σ ρ) {H' : Hp} (l : Left H H') : Rep K F S H' σ ρ where
  sub := fun b o e => l.at_ b o (fun z => by rw [(R.mt b (R.tfree b z)).2] at e; cases e) (R.sub b o e)
  s0 := R.s0
  fresh := R.fresh
  keep := fun b o q hm => l.at_ b o (fun z => hm (R.tfree b z)) (R.keep b o q hm)
  m0 := R.m0
  mt := fun b hm => ⟨fun z => (R.mt b hm).1 (l.none z), (R.mt b hm).2⟩
  tok := l.tok
  tfree := R.tfree
  len := R.len
  at_ := R.at_
  own := fun i m ds q => by
    obtain ⟨a, vs, h1, h2, h3⟩ := R.own i m ds q
    exact ⟨a, vs, h1, l.at_ a _ (R.tok.nl h2) h2, h3⟩
  apart := R.apart
  dic := R.dic
  obj := R.obj.heap (Same.refl S) (fun b x e so => l.at_ b x (R.tok.ns so e) e) fun _ _ _ _ h => h
/-! ### a list that a slot holds alone leaves; a text that is looked for in such a list; what gives a new list, for its value -/
def wOwn (i : Nat) : WA := fun ρ P => ownAt ρ i fun m ds => m = false ∧ P ds (ρ.set i .un)
section
variable {X : Cx} {a b : Expr} {ta tb : TE} {wa wb : W1} {pos : Pos}
theorem en_own (i : Nat) {x : Str} {px : Pos} (hN : X.N[i]? = some x := by rfl) (hv : Vis X.env.scope x := by first | exact Or.inl rfl | exact Or.inr (Or.inl rfl) | exact Or.inr (Or.inr rfl)) (hd : (x == ("__debug__" : Str)) = false := by decide)
    (hcd : (x == ("__classdict__" : Str)) = false := by decide) : EN X (.Name x px) (tVar i) (wOwn i) := ⟨pe_var hN hv hd hcd, fun F ρ P σ S H Q hw R q => by
  obtain ⟨m, ds, e, rfl, hp⟩ := hw.out
  obtain ⟨a, vs, h1, h2, h3, h4, h5⟩ := R.own i false ds e
  refine ⟨.ref a, h1, ?_⟩
  have R2 := R.drop i (some (.ref a))
  have es : σ.set i (some (.ref a)) = σ := by
    refine List.ext_getElem? fun j => ?_
    by_cases hj : i = j
    · subst hj
      rw [List.getElem?_set_self (by exact (List.getElem?_eq_some_iff.mp h1).1), h1]
    · rw [List.getElem?_set_ne hj]
  rw [es] at R2
  refine q ds _ a vs S H hp R2 (Same.refl S) ⟨h2, h3, h5, fun j m' es' z y => ?_⟩ h4
  rcases get_set z with ⟨rfl, z, _⟩ | ⟨hj, z⟩
  · cases z
  · exact R.apart j i m' false es' ds hj z e (by rw [y, h1])⟩
theorem et_notInR (hu : X.A.units + 65 < cLine) (ha : EV X a ta wa) (hb : ER X b tb wb) (hm : behindInMarks .NotIn b = false := by rfl) : ET X (.Compare a [.NotIn] [b] pos) (tTest (tOp (rInQ X.K true) ta tb)) (wB (wOp (gIn true) wa wb)) :=
  ⟨pt_cmpR (op_notInQ hu) ha.pe hb.pe hm, fun F ρ P σ S H Q hw R q => ha.sd F ρ _ σ S H _ hw R fun d ρ1 v S1 H1 h1 R1 s1 d1 => hb.sd F ρ1 _ σ S1 H1 _ h1 R1 fun e ρ2 u S2 H2 h2 R2 s2 d2 => by
    obtain ⟨tupS, ds, rfl, k1, k2, hp⟩ := h2
    exact ⟨d, ds, tupS, (dp_mono (s2.trans R2.sub) d v d1).p k1, d2.p k2, k1, k2, _, rfl, q _ ρ2 S2 H2 hp R2 (s1.trans s2)⟩⟩
end
theorem ofN {P : Program} {w : World} {K : PySem.W.Frag} {mg : Str → Option Value} {base : Heap} {k n : Nat} {f : Addr} {fd : FuncData} {ps : List Str} {T : TSn} (G : FnOk P w K mg base (L2.CX P w) k f fd ps (spN K n T)) :
    FnOk P w K mg base (L2.CX P w) k f fd ps (spV K n fun ds Q => T ds fun es => Q (.list es)) := G.imp fun vs H Q E ⟨S, ds, P', sm, fo, hd, hl, hT, q⟩ => ⟨S, ds, _, sm, fo, hd, hl, hT, fun es p us S' H' hp s1 s2 fr kp n1 n2 at_ d => by
  refine q _ (.ref p) (upd S' p (.lst us)) H' hp (s1.trans (same_new n2)) (fun b o e => ?_) (fun b h1 h2 => ?_) kp (.lst (SqQ.of upd_same) (dpAll_mono (same_new n2) es us d))
  · by_cases hb : b = p
    · subst hb
      rw [upd_same] at e
      cases e
      exact at_
    · rw [upd_ne hb] at e
      exact s2 b o e
  · by_cases hb : b = p
    · subst hb
      exact n1
    · rw [upd_ne hb] at h2
      exact fr b h1 h2⟩
/-! x = [.. for .. in range(..)] -/
section
variable {X : Cx} {elt tg a : Expr} {ifs : List Expr} {scope : Scope} {pos p rp : Pos} {ti te : TE} {wi we : W1} {g : TG} {ts : List Nat} {wg : WG} {tt : TT} {wt : WT}
theorem sv_setLcR (i : Nat) {y : Str} {py spos : Pos} (own : List (Str × Nat)) (hm : X.mg "range" = none) (hc : X.calm = true) (hN : X.N.Nodup) (hi : EV X a ti wi) (hok : BlkOk X.N X.env.scope scope own)
    (hsw : swapsWith (.ListComp elt [⟨tg, .Call (.Name "range" p) [a] [] rp, ifs, 0⟩] scope pos) (some (.Name y py)) spos.line X.env = pure true)
    (hg : ∀ (s : Shared) (H : Hp) (C : Addr) (cl : List (Str × Addr)) (fp : List Addr), GV (X.blk s H scope (compEnvC scope cl C X.env) fp) tg g ts wg) (ht : ∀ (s : Shared) (H : Hp) (C : Addr) (cl : List (Str × Addr)) (fp : List Addr), ETs (X.blk s H scope (compEnvC scope cl C X.env) fp) ifs tt wt)
    (he : ∀ (s : Shared) (H : Hp) (C : Addr) (cl : List (Str × Addr)) (fp : List Addr), EV (X.blk s H scope (compEnvC scope cl C X.env) fp) elt te we) (hts : ∀ j ∈ ts, j ∈ own.map (·.2)) (hy : X.N[i]? = some y := by rfl) (hyl : X.env.scope.names.lookup y = some .local := by rfl) (hgl : Gl X "range" := by rfl) (hst : starEach [a] X.env = [(false, eval a X.env)] := by rfl) (hs : ∀ x, foldedSetIterable (.Call (.Name "range" p) [a] [] rp) X.env x = pure x := by intro _; rfl) :
    SV X (.Assign [.Name y py] (.ListComp elt [⟨tg, .Call (.Name "range" p) [a] [] rp, ifs, 0⟩] scope pos) spos) (tAsg (tLc (iRng1 (tCons ti tNil)) g tt te (own.map (·.2))) (gName i)) (wSetN i (wLcR wi wg wt we (own.map (·.2)))) :=
  ⟨ps_setLc hc hN hy hyl hsw (pi_range1 hgl hm (pa_cons hi.pe pa_nil hst) hst) hok (fun s H C cl fp => (hg s H C cl fp).pg) (fun s H C cl fp => (ht s H C cl fp).pt) (fun s H C cl fp => (he s H C cl fp).pe) hs, fun F ρ N σ S H D hw R T =>
    (en_lcR (pos := pos) (p := p) (rp := rp) own hm hc hN hi hok hg ht he hts hgl hst hs).sd F ρ _ σ S H _ hw R fun ds ρ' p vs S' H' hp R' sm B hd => T.nx _ _ S' H' hp (R'.setOwn i B.at_ B.s B.h0 B.ap hd) sm⟩
end
end Tr
set_option Elab.async false
set_option linter.all false
set_option maxRecDepth 100000
set_option maxHeartbeats 2000000
/-! TrY: isinstance with one built-in type; a chain of two comparisons of ints; -n; a module's constant that is a tree; text times a number -/
namespace Tr
open PySem PySem.Spec PyProof.Rows L2
variable [Tabbed]
def isTup : PyData → Bool
  | .tuple _ => true
  | _ => false
def isInt : PyData → Bool
  | .int _ => true
  | .bool _ => true
  | _ => false
def isBool : PyData → Bool
  | .bool _ => true
  | _ => false
def isStrD : PyData → Bool
  | .str _ => true
  | _ => false
/-- the type tn, asked of a tree -/
def Asks (tn : String) (f : PyData → Bool) : Prop := ∀ (K : PySem.W.Frag) (H : Hp) (v : V) (d : PyData), top d = true → Dq K H v d → PySem.W.kitOne K (.type (tyOf d)) (.type tn) = some (f d)
theorem asks_tuple : Asks "tuple" isTup := fun K H v d ht h => by
  cases h with
  | ob => cases ht
  | dc => cases ht
  | non => exact kit_ty (a := "NoneType") (b := "tuple") (r := false) (by decide +kernel)
  | bl b => exact kit_ty (a := "bool") (b := "tuple") (r := false) (by decide +kernel)
  | int i => exact kit_ty (a := "int") (b := "tuple") (r := false) (by decide +kernel)
  | str x => exact kit_ty (a := "str") (b := "tuple") (r := false) (by decide +kernel)
  | lst _ _ => exact kit_ty (a := "list") (b := "tuple") (r := false) (by decide +kernel)
  | tup _ _ => exact kit_ty (a := "tuple") (b := "tuple") (r := true) (by decide +kernel)
theorem asks_int : Asks "int" isInt := fun K H v d ht h => by
  cases h with
  | ob => cases ht
  | dc => cases ht
  | non => exact kit_ty (a := "NoneType") (b := "int") (r := false) (by decide +kernel)
  | bl b => exact kit_ty (a := "bool") (b := "int") (r := true) (by decide +kernel)
  | int i => exact kit_ty (a := "int") (b := "int") (r := true) (by decide +kernel)
  | str x => exact kit_ty (a := "str") (b := "int") (r := false) (by decide +kernel)
  | lst _ _ => exact kit_ty (a := "list") (b := "int") (r := false) (by decide +kernel)
  | tup _ _ => exact kit_ty (a := "tuple") (b := "int") (r := false) (by decide +kernel)
theorem asks_bool : Asks "bool" isBool := fun K H v d ht h => by
  cases h with
  | ob => cases ht
  | dc => cases ht
  | non => exact kit_ty (a := "NoneType") (b := "bool") (r := false) (by decide +kernel)
  | bl b => exact kit_ty (a := "bool") (b := "bool") (r := true) (by decide +kernel)
  | int i => exact kit_ty (a := "int") (b := "bool") (r := false) (by decide +kernel)
  | str x => exact kit_ty (a := "str") (b := "bool") (r := false) (by decide +kernel)
  | lst _ _ => exact kit_ty (a := "list") (b := "bool") (r := false) (by decide +kernel)
  | tup _ _ => exact kit_ty (a := "tuple") (b := "bool") (r := false) (by decide +kernel)
theorem asks_str : Asks "str" isStrD := fun K H v d ht h => by
  cases h with
  | ob => cases ht
  | dc => cases ht
  | non => exact kit_ty (a := "NoneType") (b := "str") (r := false) (by decide +kernel)
  | bl b => exact kit_ty (a := "bool") (b := "str") (r := false) (by decide +kernel)
  | int i => exact kit_ty (a := "int") (b := "str") (r := false) (by decide +kernel)
  | str x => exact kit_ty (a := "str") (b := "str") (r := true) (by decide +kernel)
  | lst _ _ => exact kit_ty (a := "list") (b := "str") (r := false) (by decide +kernel)
  | tup _ _ => exact kit_ty (a := "tuple") (b := "str") (r := false) (by decide +kernel)
def wIs1 (f : PyData → Bool) (we : W1) : W1 := fun ρ P => we ρ fun d ρ1 => top d = true ∧ P (.bool (f d)) ρ1
def wNeg (we : W1) : W1 := fun ρ P => we ρ fun d ρ1 => asInt d fun i => P (.int (-i)) ρ1
def wChainI (p q : Int → Int → Bool) (wa wb wc : W1) : W1 := fun ρ P => wa ρ fun x ρ1 => wb ρ1 fun y ρ2 => asInt x fun i => asInt y fun j => if p i j = true then wc ρ2 fun z ρ3 => asInt z fun k => P (.bool (q j k)) ρ3 else P (.bool false) ρ2
section
variable {X : Cx} {e a b c : Expr} {te ta tb tc : TE} {we wa wb wc : W1} {k : Nat} {p p1 pos : Pos}
theorem ev_is1 {T : Str} {tn : String} {f : PyData → Bool} (ha : Asks tn f) (hm : X.mg "isinstance" = none) (hmt : X.mg T = none) (he : EV X e te we) (hb : bootBuiltins T = some (.type tn) := by decide +kernel) (hg : Gl X "isinstance" := by rfl) (hgt : Gl X T := by rfl) (hn : T ≠ "__name__" := by decide) (hdb : (T == ("__debug__" : Str)) = false := by decide)
    (hs1 : starEach [e, .Name T p1] X.env = (false, eval e X.env) :: starEach [.Name T p1] X.env := by rfl) (hs2 : starEach [.Name T p1] X.env = (false, eval (.Name T p1) X.env) :: starEach [] X.env := by rfl)
    (hpl : (backTo pos (starEach [.Name T p1] X.env)).any (·.1) = false := by rfl) :
    EV X (.Call (.Name "isinstance" p) [e, .Name T p1] [] pos) (tCB (rIsi X.K) (tCons te (tCons (tC (.ty tn)) tNil))) (wIs1 f we) :=
  ⟨pe_callB call_isi hg hm (by decide +kernel) (pa_cons he.pe (pa_cons (pe_bltn hgt hmt (v := .ty tn) (u := .type tn) hb rfl hn hdb) pa_nil hs2) hs1) (by decide) (by decide) hs1 hpl, fun F ρ P σ S H Q hw R q =>
    he.sd F ρ _ σ S H _ hw R fun d ρ1 v S1 H1 h1 R1 s1 d1 => by
      have d2 : Dq X.K H1 v d := dp_mono R1.sub d v d1
      exact ⟨v, .ty tn, _, .type tn, f d, rfl, .ty _, dq_ty h1.1 d2, ha _ _ _ _ h1.1 d2, q _ ρ1 _ S1 _ h1.2 R1 s1 (.bl _)⟩⟩
theorem ev_neg (he : EV X e te we) : EV X (.UnaryOp .USub e pos) (tUn (rU fun i => .int (-i)) te) (wNeg we) := ⟨pe_un un_neg he.pe, fun F ρ P σ S H Q hw R q =>
    he.sd F ρ _ σ S H _ hw R fun d ρ1 v S1 H1 h1 R1 s1 d1 => by
      obtain ⟨i, rfl, h1⟩ := h1.out
      cases d1
      exact ⟨i, rfl, q _ ρ1 _ S1 _ h1 R1 s1 (.int _)⟩⟩
theorem ev_leLt (ha : EV X a ta wa) (hb : EV X b tb wb) (hc : EV X c tc wc) (hm : lastMarks [.LtE, .Lt] [b, c] = false := by with_unfolding_all rfl) :
    EV X (.Compare a [.LtE, .Lt] [b, c] pos) (tChain (rI0 fun i j => .bl (decide (i ≤ j))) (rI0 fun i j => .bl (decide (i < j))) ta tb tc) (wChainI (fun i j => decide (i ≤ j)) (fun i j => decide (i < j)) wa wb wc) :=
  ⟨pe_chain op_le op_lt ha.pe hb.pe hc.pe hm, fun F ρ P σ S H Q hw R q =>
    ha.sd F ρ _ σ S H _ hw R fun x ρ1 vx S1 H1 h1 R1 s1 d1 => hb.sd F ρ1 _ σ S1 H1 _ h1 R1 fun y ρ2 vy S2 H2 h2 R2 s2 d2 => by
      obtain ⟨i, ex, h3⟩ := h2.out
      obtain ⟨j, ey, h4⟩ := h3.out
      subst ex ey
      replace h2 : (if (decide (i ≤ j)) = true then wc ρ2 fun z ρ3 => asInt z fun k => P (.bool (decide (j < k))) ρ3 else P (.bool false) ρ2) := h4
      clear h3 h4
      cases d1
      cases d2
      refine ⟨i, j, rfl, rfl, decide (i ≤ j), rfl, ?_⟩
      by_cases hij : (decide (i ≤ j)) = true
      · rw [if_pos hij] at h2 ⊢
        exact hc.sd F ρ2 _ σ S2 H2 _ h2 R2 fun z ρ3 vz S3 H3 h3 R3 s3 d3 => by
          obtain ⟨k, rfl, h3⟩ := h3.out
          cases d3
          exact ⟨j, k, rfl, rfl, q _ ρ3 _ S3 H3 h3 R3 (s1.trans (s2.trans s3)) (.bl _)⟩
      · rw [if_neg hij] at h2 ⊢
        exact q _ ρ2 _ S2 H2 h2 R2 (s1.trans s2) (.bl _)⟩
/-- a module's constant -/
theorem ev_const {x : Str} {v : V} {d : PyData} {u : Value} {pos' : Pos} (hm : X.mg x = some u) (r : RelV v u) (hd : ∀ S : Hp, Dq X.K S v d) (hg : Gl X x := by rfl) (hdb : (x == ("__debug__" : Str)) = false := by decide) : EV X (.Name x pos') (tC v) (wC d) :=
  ⟨pe_glob hg hm r hdb, fun F ρ P σ S H Q hw R q => q _ ρ _ S H hw R (Same.refl S) (hd S)⟩
end
end Tr
set_option Elab.async false
set_option linter.all false
set_option maxRecDepth 100000
set_option maxHeartbeats 2000000
/-! TrZ: a text times a number; a comprehension over range(a, b) -/
namespace Tr
open PySem PySem.Spec PyProof.Rows L2
variable [Tabbed]
def rMulS : R2 := fun x y H Q => ∃ (s : Str) (n : Int), x = .str s ∧ y = .int n ∧ MulOk s n ∧ Q (.str (Txt.mul s n)) H
def gMulS : PyData → PyData → (PyData → Prop) → Prop := fun x y P => match x, y with
  | .str s, .int n => MulOk s n ∧ P (.str (Txt.mul s n))
  | _, _ => False
theorem lift_mulS {K : PySem.W.Frag} : Lift2 K rMulS gMulS := fun S H x y d e P Q sm dx dy hg q => by
  unfold gMulS at hg
  split at hg
  · cases dx
    cases dy
    exact ⟨_, _, rfl, rfl, hg.1, q _ _ hg.2 (.str _)⟩
  · exact hg.elim
theorem op_mulS {X : Cx} : OpR X (binaryOp .Mult) rMulS := by
  intro pins s σ H x y v u Q I rx ry h
  obtain ⟨a, n, rfl, rfl, ok, q⟩ := h
  obtain ⟨t, rfl⟩ := rx
  obtain ⟨t', rfl⟩ := ry
  exact PySem.SB.mul ok fun tk k => ⟨.str _, H, I.tok k, ⟨_, rfl⟩, q⟩
theorem ev_mulS {X : Cx} {a b : Expr} {ta tb : TE} {wa wb : W1} {pos : Pos} (ha : EV X a ta wa) (hb : EV X b tb wb) : EV X (.BinOp a .Mult b pos) (tOp rMulS ta tb) (wOp gMulS wa wb) := ev_bin op_mulS lift_mulS ha hb
/-- a comprehension over range(a, b) -/
def wLcR2 (wa : WA) (wg : WG) (wt : WT) (we : W1) (ws : List Nat) : WA := fun ρ P => wa ρ fun ds ρ1 => ∃ lo hi : Int, ds = [.int lo, .int hi] ∧ (-(2 ^ 62) ≤ lo ∧ lo < 2 ^ 62 ∧ -(2 ^ 62) ≤ hi ∧ hi < 2 ^ 62) ∧ ∃ I : Nat → List PyData → En → Prop, I 0 [] ρ1 ∧
  (∀ (k : Nat) acc ρ2, k < (hi - lo).toNat → I k acc ρ2 → wTurn wg wt we ws I k (.int (lo + k)) acc ρ2) ∧ ∀ acc ρ2, I (hi - lo).toNat acc ρ2 → P acc ρ2
section
variable {X : Cx} {elt tg a b : Expr} {ifs : List Expr} {scope : Scope} {pos p rp : Pos} {ta : TA} {te : TE} {wa : WA} {we : W1} {g : TG} {ts : List Nat} {wg : WG} {tt : TT} {wt : WT}
theorem en_lcR2 (own : List (Str × Nat)) (hm : X.mg "range" = none) (hc : X.calm = true) (hN : X.N.Nodup) (hi : EA X [a, b] ta wa) (hok : BlkOk X.N X.env.scope scope own)
    (hg : ∀ (s : Shared) (H : Hp) (C : Addr) (cl : List (Str × Addr)) (fp : List Addr), GV (X.blk s H scope (compEnvC scope cl C X.env) fp) tg g ts wg) (ht : ∀ (s : Shared) (H : Hp) (C : Addr) (cl : List (Str × Addr)) (fp : List Addr), ETs (X.blk s H scope (compEnvC scope cl C X.env) fp) ifs tt wt)
    (he : ∀ (s : Shared) (H : Hp) (C : Addr) (cl : List (Str × Addr)) (fp : List Addr), EV (X.blk s H scope (compEnvC scope cl C X.env) fp) elt te we) (hts : ∀ j ∈ ts, j ∈ own.map (·.2)) (hgl : Gl X "range" := by rfl) (hst : starEach [a, b] X.env = [(false, eval a X.env), (false, eval b X.env)] := by rfl) (hst2 : starEach [b] X.env = [(false, eval b X.env)] := by rfl)
    (hs : ∀ x, foldedSetIterable (.Call (.Name "range" p) [a, b] [] rp) X.env x = pure x := by intro _; rfl) :
    EN X (.ListComp elt [⟨tg, .Call (.Name "range" p) [a, b] [] rp, ifs, 0⟩] scope pos) (tLc (iRng2 ta) g tt te (own.map (·.2))) (wLcR2 wa wg wt we (own.map (·.2))) :=
  ⟨pe_lc hc hN (pi_range2 hgl hm hi.pa hst hst2) hok (fun s H C cl fp => (hg s H C cl fp).pg) (fun s H C cl fp => (ht s H C cl fp).pt) (fun s H C cl fp => (he s H C cl fp).pe) hs, fun F ρ P σ S H Q hw R q =>
    hi.sd F ρ _ σ S H _ hw R fun ds ρ1 vs S1 H1 h1 R1 s1 d1 => by
      obtain ⟨lo, hb, rfl, bd, I, i0, turn, hf⟩ := h1
      obtain ⟨v1, v2, rfl⟩ : ∃ v1 v2, vs = [v1, v2] := by
        cases d1 with
        | cons x1 x2 =>
          cases x2 with
          | cons x3 x4 =>
            cases x4
            exact ⟨_, _, rfl⟩
      have e1 : v1 = .int lo ∧ v2 = .int hb := by
        cases d1 with
        | cons x1 x2 =>
          cases x2 with
          | cons x3 x4 =>
            cases x1
            cases x3
            exact ⟨rfl, rfl⟩
      obtain ⟨rfl, rfl⟩ := e1
      refine ⟨lo, hb, rfl, bd, fun D n => lc_range (lo := lo) (n := (hb - lo).toNat) (LcAt X.K F S1 σ D I) ⟨S1, ρ1, [], [], R1.lay n _, Same.refl _, R1.bare n, .nil, i0⟩ (fun i H hlt hL => ?_) fun H ⟨S', ρ', acc, us, R', sm, B, da, hI⟩ => q acc ρ' D us S' H (hf acc ρ' hI) R' (s1.trans sm) B da⟩
      exact lc_turn (fun F ρ P σ S H v d Q => (hg {} (fun _ => none) 0 [] []).sd F ρ P σ S H v d Q) (fun F ρ P σ S H Q => (ht {} (fun _ => none) 0 [] []).sd F ρ P σ S H Q) (fun F ρ P σ S H Q => (he {} (fun _ => none) 0 [] []).sd F ρ P σ S H Q) hts (.int _)
        (fun z => R1.m0 D z (R1.h0 n)) (same_none R1.s0 (same_none R1.sub n)) (fun acc ρ2 hI => turn i acc ρ2 hlt hI) hL⟩
end
end Tr
set_option Elab.async false
set_option linter.all false
set_option maxRecDepth 100000
set_option maxHeartbeats 2000000
/-! TrP: comprehensions over the signs of a text; a sign in a text; < of trees; is True, is False -/
namespace Tr
open PySem PySem.Spec PyProof.Rows L2
variable [Tabbed]
/-! ### [elt for c in text if ..] -/
def wLcS (wi : W1) (wg : WG) (wt : WT) (we : W1) (ws : List Nat) : WA := fun ρ P => wi ρ fun d ρ1 => ∃ x : Str, d = .str x ∧ ∃ I : Nat → List PyData → En → Prop, I 0 [] ρ1 ∧
  (∀ (k c : Nat) acc ρ2, x.cps[k]? = some c → I k acc ρ2 → wTurn wg wt we ws I k (.str ⟨#[c]⟩) acc ρ2) ∧ ∀ acc ρ2, I x.cps.size acc ρ2 → P acc ρ2
/-- what a turn of a comprehension is to reach -/
def Reach (g : TG) (tt : TT) (te : TE) (vs : List Nat) (σ : L2.St) (D : Addr) (Nx : Hp → Prop) (x : V) (H : Hp) : Prop :=
  g x (wipe σ vs) H fun σ2 H2 => wipe σ2 vs = wipe σ vs ∧ tt σ2 H2 fun b H3 =>
    if b = true then te σ2 H3 fun y H4 => ∃ acc, H4 D = some (.lst acc) ∧ acc.length < sizeLine ∧ Nx (upd H4 D (.lst (acc ++ [y]))) else Nx H3
theorem lc_signs {x : Str} {g : TG} {tt : TT} {te : TE} {vs : List Nat} {σ : L2.St} {H1 : Hp} {D : Addr} {Qd : Hp → Prop} (Pv : Nat → Hp → Prop) (start : Pv 0 (upd H1 D (.lst [])))
    (turn : ∀ i c H, x.cps[i]? = some c → Pv i H → Reach g tt te vs σ D (Pv (i + 1)) (.str ⟨#[c]⟩) H) (fin : ∀ H, Pv x.cps.size H → Qd H) :
    ∃ W : Nat → Nat → Hp → Prop, (∃ m, W 0 m (upd H1 D (.lst []))) ∧ ∀ i m H, W i m H →
      ((Its x).stop i H ∧ Qd H) ∨ ((Its x).go i H ∧ ∃ Nx : Hp → Prop, (∀ H', Nx H' → ∃ m', m' < m ∧ W (i + 1) m' H') ∧ ∀ y H', (Its x).yld i H y H' → Reach g tt te vs σ D Nx y H') := by
  refine ⟨fun i m H => m = x.cps.size - i ∧ i ≤ x.cps.size ∧ Pv i H, ⟨x.cps.size, rfl, Nat.zero_le _, start⟩, ?_⟩
  rintro i m H ⟨rfl, hi, pv⟩
  rcases Nat.lt_or_ge i x.cps.size with lt | ge
  · refine .inr ⟨lt, Pv (i + 1), fun H' p2 => ⟨x.cps.size - (i + 1), by omega, rfl, lt, p2⟩, fun y H' yl => ?_⟩
    obtain ⟨e1, c, hc, e2⟩ := yl
    subst e1 e2
    exact turn i c _ hc pv
  · have e : i = x.cps.size := Nat.le_antisymm hi ge
    subst e
    exact .inl ⟨Nat.le_refl _, fin H pv⟩
section
variable {X : Cx} {elt tg it : Expr} {ifs : List Expr} {scope : Scope} {pos : Pos} {ti te : TE} {wi we : W1} {g : TG} {ts : List Nat} {wg : WG} {tt : TT} {wt : WT}
theorem en_lcS (own : List (Str × Nat)) (hc : X.calm = true) (hN : X.N.Nodup) (hi : EV X it ti wi) (hok : BlkOk X.N X.env.scope scope own)
    (hg : ∀ (s : Shared) (H : Hp) (C : Addr) (cl : List (Str × Addr)) (fp : List Addr), GV (X.blk s H scope (compEnvC scope cl C X.env) fp) tg g ts wg) (ht : ∀ (s : Shared) (H : Hp) (C : Addr) (cl : List (Str × Addr)) (fp : List Addr), ETs (X.blk s H scope (compEnvC scope cl C X.env) fp) ifs tt wt)
    (he : ∀ (s : Shared) (H : Hp) (C : Addr) (cl : List (Str × Addr)) (fp : List Addr), EV (X.blk s H scope (compEnvC scope cl C X.env) fp) elt te we) (hts : ∀ j ∈ ts, j ∈ own.map (·.2)) (hs : ∀ x, foldedSetIterable it X.env x = pure x := by intro _; rfl) :
    EN X (.ListComp elt [⟨tg, it, ifs, 0⟩] scope pos) (tLc (iStr ti) g tt te (own.map (·.2))) (wLcS wi wg wt we (own.map (·.2))) :=
  ⟨pe_lc hc hN (pi_str hi.pe) hok (fun s H C cl fp => (hg s H C cl fp).pg) (fun s H C cl fp => (ht s H C cl fp).pt) (fun s H C cl fp => (he s H C cl fp).pe) hs, fun F ρ P σ S H Q hw R q =>
    hi.sd F ρ _ σ S H _ hw R fun d ρ1 v S1 H1 h1 R1 s1 d1 => by
      obtain ⟨x, rfl, I, i0, turn, hf⟩ := h1
      cases d1
      refine ⟨x, rfl, fun D n => lc_signs (x := x) (LcAt X.K F S1 σ D I) ⟨S1, ρ1, [], [], R1.lay n _, Same.refl _, R1.bare n, .nil, i0⟩ (fun i c H hcx hL => ?_) fun H ⟨S', ρ', acc, us, R', sm, B, da, hI⟩ => q acc ρ' D us S' H (hf acc ρ' hI) R' (s1.trans sm) B da⟩
      exact lc_turn (fun F ρ P σ S H v d Q => (hg {} (fun _ => none) 0 [] []).sd F ρ P σ S H v d Q) (fun F ρ P σ S H Q => (ht {} (fun _ => none) 0 [] []).sd F ρ P σ S H Q) (fun F ρ P σ S H Q => (he {} (fun _ => none) 0 [] []).sd F ρ P σ S H Q) hts (.str _)
        (fun z => R1.m0 D z (R1.h0 n)) (same_none R1.s0 (same_none R1.sub n)) (fun acc ρ2 hI => turn i c acc ρ2 hcx hI) hL⟩
end
/-! ### a sign in a text -/
def rSign (neg : Bool) : R2 := fun x y H Q => ∃ (c : Nat) (z : Str), x = .str ⟨#[c]⟩ ∧ y = .str z ∧ Q (.bl (if neg = true then !decide (c ∈ z.cps.toList) else decide (c ∈ z.cps.toList))) H
def gSign (neg : Bool) : PyData → PyData → (PyData → Prop) → Prop := fun x y P => ∃ (c : Nat) (z : Str), x = .str ⟨#[c]⟩ ∧ y = .str z ∧ P (.bool (if neg = true then !decide (c ∈ z.cps.toList) else decide (c ∈ z.cps.toList)))
theorem lift_sign {K : PySem.W.Frag} {neg : Bool} : Lift2 K (rSign neg) (gSign neg) := fun S H x y d e P Q sm dx dy hg q => by
  obtain ⟨c, z, rfl, rfl, hp⟩ := hg
  cases dx
  cases dy
  exact ⟨c, z, rfl, rfl, q _ _ hp (.bl _)⟩
theorem op_sign {X : Cx} : OpR X (compareOp .In) (rSign false) := op_in_sign
theorem op_noSign {X : Cx} : OpR X (compareOp .NotIn) (rSign true) := op_notIn_sign
/-! ### < of trees -/
def rLtD (K : PySem.W.Frag) : R2 := fun x y H Q => ∃ d e, Dp K H x d ∧ Dp K H y e ∧ PySem.W.alike d e = true ∧ d ≠ .none ∧ d.depth ≤ 64 ∧ Q (.bl (PySem.W.dataLt d e)) H
def gLtD : PyData → PyData → (PyData → Prop) → Prop := fun x y P => PySem.W.alike x y = true ∧ x ≠ .none ∧ x.depth ≤ 64 ∧ (nd x = true ∧ nd y = true) ∧ P (.bool (PySem.W.dataLt x y))
theorem op_ltD {X : Cx} (hu : X.A.units + 64 < cLine) : OpR X (compareOp .Lt) (rLtD X.K) := fun pins s σ H x y v u Q I rx ry h => by
  obtain ⟨d, e, hd, he, al, nn, dp, q⟩ := h
  obtain ⟨as, r1⟩ := Dp.reads I d x v hd rx
  obtain ⟨bs, r2⟩ := Dp.reads I e y u he ry
  exact PySem.W.lt_data r1 r2 al nn (by omega) ⟨.bl _, H, I, rfl, q⟩
theorem lift_ltD {K : PySem.W.Frag} : Lift2 K (rLtD K) gLtD := fun S H x y d e P Q sm dx dy hg q => ⟨d, e, dq_p d x hg.2.2.2.1.1 (dp_mono sm d x dx), dq_p e y hg.2.2.2.1.2 (dp_mono sm e y dy), hg.1, hg.2.1, hg.2.2.1, q _ _ hg.2.2.2.2 (.bl _)⟩
/-! ### is True, is False -/
def isB (b : Bool) : PyData → Bool
  | .bool c => c == b
  | _ => false
def rIsB0 (neg : Bool) (K : PySem.W.Frag) : R2 := fun x y H Q => ∃ d b, Dq K H x d ∧ y = .bl b ∧ Q (.bl (if neg = true then !isB b d else isB b d)) H
def gIsB (neg : Bool) : PyData → PyData → (PyData → Prop) → Prop := fun x y P => ∃ b, y = .bool b ∧ P (.bool (if neg = true then !isB b x else isB b x))
theorem isB_val {K : PySem.W.Frag} {H : Hp} {x : V} {d : PyData} {v : Value} (hd : Dq K H x d) (r : RelV x v) (b : Bool) : plainIs v (.bool b) = true ∧ (v == Value.bool b) = isB b d := by
  cases hd with
  | non => cases r; exact ⟨rfl, rfl⟩
  | bl c =>
    cases (show v = Value.bool c from r)
    refine ⟨rfl, ?_⟩
    cases c <;> cases b <;> rfl
  | int i => obtain ⟨t, rfl⟩ := r; exact ⟨rfl, rfl⟩
  | str x => obtain ⟨t, rfl⟩ := r; exact ⟨rfl, rfl⟩
  | lst _ _ => cases r; exact ⟨rfl, rfl⟩
  | tup _ _ => cases r; exact ⟨rfl, rfl⟩
  | ob _ _ _ => cases r; exact ⟨rfl, rfl⟩
  | dc _ _ _ _ => cases r; exact ⟨rfl, rfl⟩
theorem op_isB {X : Cx} : OpR X (compareOp .Is) (rIsB0 false X.K) := fun pins s σ H x y v u Q I rx ry h => by
  obtain ⟨d, b, hd, rfl, q⟩ := h
  cases (show u = Value.bool b from ry)
  obtain ⟨h1, h2⟩ := isB_val hd rx b
  exact wpAny_is_plain h1 (by rw [h2]; exact ⟨.bl _, H, I, rfl, q⟩)
theorem op_isNotB {X : Cx} : OpR X (compareOp .IsNot) (rIsB0 true X.K) := fun pins s σ H x y v u Q I rx ry h => by
  obtain ⟨d, b, hd, rfl, q⟩ := h
  cases (show u = Value.bool b from ry)
  obtain ⟨h1, h2⟩ := isB_val hd rx b
  exact wpAny_isNot_plain h1 (by rw [h2]; exact ⟨.bl _, H, I, rfl, q⟩)
theorem lift_isB {K : PySem.W.Frag} {neg : Bool} : Lift2 K (rIsB0 neg K) (gIsB neg) := fun S H x y d e P Q sm dx dy hg q => by
  obtain ⟨b, rfl, hp⟩ := hg
  cases dy
  exact ⟨d, b, dp_mono sm d x dx, rfl, q _ _ hp (.bl _)⟩
section
variable {X : Cx} {a b : Expr} {ta tb : TE} {wa wb : W1} {pos : Pos}
theorem ev_inS (ha : EV X a ta wa) (hb : EV X b tb wb) (hm : behindInMarks .In b = false := by rfl) : EV X (.Compare a [.In] [b] pos) (tOp (rSign false) ta tb) (wOp (gSign false) wa wb) := ev_cmpI op_sign lift_sign ha hb hm
theorem et_inS (ha : EV X a ta wa) (hb : EV X b tb wb) (hm : behindInMarks .In b = false := by rfl) : ET X (.Compare a [.In] [b] pos) (tTest (tOp (rSign false) ta tb)) (wB (wOp (gSign false) wa wb)) := et_cmp op_sign lift_sign ha hb hm
theorem et_notInS (ha : EV X a ta wa) (hb : EV X b tb wb) (hm : behindInMarks .NotIn b = false := by rfl) : ET X (.Compare a [.NotIn] [b] pos) (tTest (tOp (rSign true) ta tb)) (wB (wOp (gSign true) wa wb)) := et_cmp op_noSign lift_sign ha hb hm
theorem ev_ltD (hu : X.A.units + 64 < cLine) (ha : EV X a ta wa) (hb : EV X b tb wb) : EV X (.Compare a [.Lt] [b] pos) (tOp (rLtD X.K) ta tb) (wOp gLtD wa wb) := ev_cmpI (op_ltD hu) lift_ltD ha hb (nomark _)
theorem ev_isB (ha : EV X a ta wa) (hb : EV X b tb wb) : EV X (.Compare a [.Is] [b] pos) (tOp (rIsB0 false X.K) ta tb) (wOp (gIsB false) wa wb) := ev_cmpI op_isB lift_isB ha hb (nomark _)
theorem et_isNotB (ha : EV X a ta wa) (hb : EV X b tb wb) : ET X (.Compare a [.IsNot] [b] pos) (tTest (tOp (rIsB0 true X.K) ta tb)) (wB (wOp (gIsB true) wa wb)) := et_cmp op_isNotB lift_isB ha hb (nomark _)
theorem ev_leLe {c : Expr} {tc : TE} {wc : W1} (ha : EV X a ta wa) (hb : EV X b tb wb) (hc : EV X c tc wc) (hm : lastMarks [.LtE, .LtE] [b, c] = false := by with_unfolding_all rfl) :
    EV X (.Compare a [.LtE, .LtE] [b, c] pos) (tChain (rI0 fun i j => .bl (decide (i ≤ j))) (rI0 fun i j => .bl (decide (i ≤ j))) ta tb tc) (wChainI (fun i j => decide (i ≤ j)) (fun i j => decide (i ≤ j)) wa wb wc) :=
  ⟨pe_chain op_le op_le ha.pe hb.pe hc.pe hm, fun F ρ P σ S H Q hw R q =>
    ha.sd F ρ _ σ S H _ hw R fun x ρ1 vx S1 H1 h1 R1 s1 d1 => hb.sd F ρ1 _ σ S1 H1 _ h1 R1 fun y ρ2 vy S2 H2 h2 R2 s2 d2 => by
      obtain ⟨i, ex, h3⟩ := h2.out
      obtain ⟨j, ey, h4⟩ := h3.out
      subst ex ey
      clear h2 h3
      cases d1
      cases d2
      refine ⟨i, j, rfl, rfl, decide (i ≤ j), rfl, ?_⟩
      by_cases hij : (decide (i ≤ j)) = true
      · rw [if_pos hij] at h4 ⊢
        exact hc.sd F ρ2 _ σ S2 H2 _ h4 R2 fun z ρ3 vz S3 H3 h3 R3 s3 d3 => by
          obtain ⟨k, rfl, h3⟩ := h3.out
          cases d3
          exact ⟨j, k, rfl, rfl, q _ ρ3 _ S3 H3 h3 R3 (s1.trans (s2.trans s3)) (.bl _)⟩
      · rw [if_neg hij] at h4 ⊢
        exact q _ ρ2 _ S2 H2 h4 R2 (s1.trans s2) (.bl _)⟩
/-- one reading or another -/
theorem ev_alt {t2 : TE} {w2 : W1} (h1 : EV X a ta wa) (h2 : EV X a t2 w2) : EV X a (fun σ H Q => ta σ H Q ∨ t2 σ H Q) (fun ρ P => wa ρ P ∨ w2 ρ P) :=
  ⟨⟨fun pins s σ H Q I h => h.elim (fun h => h1.pe.run pins s σ H Q I h) fun h => h2.pe.run pins s σ H Q I h⟩, fun F ρ P σ S H Q hw R q => hw.elim (fun h => .inl (h1.sd F ρ P σ S H Q h R q)) fun h => .inr (h2.sd F ρ P σ S H Q h R q)⟩
end
end Tr
set_option Elab.async false
set_option linter.all false
set_option maxRecDepth 100000
set_option maxHeartbeats 2000000
/-! TrP2: a chain of comparisons as a test -/
namespace Tr
open PySem PySem.Spec PyProof.Rows L2
variable [Tabbed]
section
variable {X : Cx} {a b c : Expr} {ta tb tc : TE} {wa wb wc : W1} {pos : Pos}
theorem et_leLe (ha : EV X a ta wa) (hb : EV X b tb wb) (hc : EV X c tc wc) (hm : lastMarks [.LtE, .LtE] [b, c] = false := by with_unfolding_all rfl) :
    ET X (.Compare a [.LtE, .LtE] [b, c] pos) (tTest (tChain (rI0 fun i j => .bl (decide (i ≤ j))) (rI0 fun i j => .bl (decide (i ≤ j))) ta tb tc)) (wB (wChainI (fun i j => decide (i ≤ j)) (fun i j => decide (i ≤ j)) wa wb wc)) :=
  ⟨pt_chain op_le op_le ha.pe hb.pe hc.pe hm, snd_Test (ev_leLe (pos := pos) ha hb hc hm).sd⟩
end
end Tr
set_option Elab.async false
set_option linter.all false
set_option maxRecDepth 100000
set_option maxHeartbeats 2000000
/-! TrP3: for x in range(a, b); a slot is forgotten -/
namespace Tr
open PySem PySem.Spec PyProof.Rows L2
variable [Tabbed]
/-- nothing is known of a slot any more -/
theorem Rep.forget {K : PySem.W.Frag} {F : Fm} {S H : Hp} {σ : L2.St} {ρ : En} (R : Rep K F S H σ ρ) (i : Nat) : Rep K F S H σ (ρ.set i .un) := by
  have key : ∀ {j : Nat} {x : Sl}, (ρ.set i .un)[j]? = some x → x ≠ .un → ρ[j]? = some x := fun {j x} e hx => by
    rcases get_set e with ⟨_, e, _⟩ | ⟨_, e⟩
    · exact absurd e hx
    · exact e
  refine ⟨R.sub, R.s0, R.fresh, R.keep, R.m0, R.mt, R.tok, R.tfree, by rw [List.length_set]; exact R.len, fun j d e => R.at_ j d (key e (by simp)), fun j m ds e => R.own j m ds (key e (by simp)), fun j l m n ds es hne e e' => R.apart j l m n ds es hne (key e (by simp)) (key e' (by simp)), fun j m e => R.dic j m (key e (by simp)), R.obj.put' i fun o z => nomatch z⟩
def wForget (i : Nat) (w : WS) : WS := fun ρ N => w (ρ.set i .un) N
section
variable {X : Cx} {pos : Pos}
theorem sv_forget (i : Nat) {st : Stmt} {t : TS} {w : WS} (h : SV X st t w) : SV X st t (wForget i w) := ⟨h.ps, fun F ρ N σ S H D hw R T => h.sd F _ N σ S H D hw (R.forget i) T⟩
/-- for x in range(a, b) -/
def wForR2 (wa : WA) (wg : WG) (wb : WS) : WS := fun ρ N => wa ρ fun ds ρ1 => ∃ lo hi : Int, ds = [.int lo, .int hi] ∧ (-(2 ^ 62) ≤ lo ∧ lo < 2 ^ 62 ∧ -(2 ^ 62) ≤ hi ∧ hi < 2 ^ 62) ∧ ∃ I : Nat → En → Prop, I 0 ρ1 ∧
  (∀ (k : Nat) ρ2, k < (hi - lo).toNat → I k ρ2 → wg (.int (lo + k)) ρ2 fun ρ3 => Later wb ρ3 { N with nx := I (k + 1), ct := I (k + 1), bk := N.nx }) ∧ ∀ ρ2, I (hi - lo).toNat ρ2 → N.nx ρ2
theorem sv_forR2 {tg a b : Expr} {body : List Stmt} {ta : TA} {wa : WA} {g : TG} {wg : WG} {tb : TS} {wb : WS} {p rp : Pos} {ts : List Nat} (hm : X.mg "range" = none) (hi : EA X [a, b] ta wa) (hg : GV X tg g ts wg) (hb : SVs X body tb wb)
    (hp : PassesOwn (model X.prog X.w) X.A X.env X.xe) (hc : X.calm = true) (hgl : Gl X "range" := by rfl) (hst : starEach [a, b] X.env = [(false, eval a X.env), (false, eval b X.env)] := by rfl) (hst2 : starEach [b] X.env = [(false, eval b X.env)] := by rfl)
    (hs : ∀ x, foldedSetIterable (.Call (.Name "range" p) [a, b] [] rp) X.env x = pure x := by intro _; rfl) :
    SV X (.For tg (.Call (.Name "range" p) [a, b] [] rp) body [] pos) (tFor (iRng2 ta) g tb) (wForR2 wa wg wb) := ⟨ps_for hp hc (pi_range2 hgl hm hi.pa hst hst2) hg.pg hb.ps hs, fun F ρ N σ S H D hw R T =>
  hi.sd F ρ _ σ S H _ hw R fun ds ρ1 vs S1 H1 h1 R1 s1 d1 => by
    obtain ⟨lo, hb', rfl, bd, I, i0, turn, fin⟩ := h1
    cases d1 with
    | cons x1 x2 =>
      cases x1
      cases x2 with
      | cons x3 x4 =>
        cases x3
        cases x4
        refine ⟨lo, hb', rfl, bd, for_range (lo := lo) (n := (hb' - lo).toNat) (fun i σ H => ∃ S' ρ', Rep X.K F S' H σ ρ' ∧ Same S1 S' ∧ I i ρ') ⟨S1, ρ1, R1, Same.refl _, i0⟩ (fun i σ H hi' ⟨S', ρ', R', sm, hI⟩ => ?_) fun σ H ⟨S', ρ', R', sm, hI⟩ => T.nx ρ' σ S' H (fin ρ' hI) R' (s1.trans sm)⟩
        refine hg.sd F ρ' _ σ S' H _ _ _ (turn i ρ' hi' hI) R' (.int _) fun ρ3 σ3 h3 R3 _ => ?_
        exact hb.sd F ρ3 _ σ3 S' H _ h3 R3 ⟨fun ρ4 σ4 S4 H4 h4 R4 s4 => ⟨S4, ρ4, R4, sm.trans s4, h4⟩, fun d4 ρ4 v4 σ4 S4 H4 h4 R4 s4 d4' => T.rt d4 ρ4 v4 σ4 S4 H4 h4 R4 (s1.trans (sm.trans s4)) d4',
          fun ρ4 σ4 S4 H4 h4 R4 s4 => T.nx ρ4 σ4 S4 H4 h4 R4 (s1.trans (sm.trans s4)), fun ρ4 σ4 S4 H4 h4 R4 s4 => ⟨S4, ρ4, R4, sm.trans s4, h4⟩, fun d4 ρ4 p4 v4 σ4 S4 H4 h4 R4 s4 B4 k4 => T.rn d4 ρ4 p4 v4 σ4 S4 H4 h4 R4 (s1.trans (sm.trans s4)) B4 k4⟩⟩
end
end Tr
set_option Elab.async false
set_option linter.all false
set_option maxRecDepth 100000
set_option maxHeartbeats 2000000
/-! TrP4: a tuple times a number; a text and a text -/
namespace Tr
open PySem PySem.Spec PyProof.Rows L2
variable [Tabbed]
def gRepT : PyData → PyData → (PyData → Prop) → Prop := fun x y P => match x, y with
  | .tuple ds, .int k => ds ≠ [] ∧ 2 ≤ k ∧ k ≤ 1000 ∧ ds.length ≤ 1000 ∧ P (.tuple (List.replicate k.toNat ds).flatten)
  | _, _ => False
theorem rep_dp {K : PySem.W.Frag} {S : Hp} {vs : List V} {ds : List PyData} (h : DqAll K S vs ds) : ∀ n : Nat, DqAll K S (List.replicate n vs).flatten (List.replicate n ds).flatten
  | 0 => .nil
  | n + 1 => by
    rw [List.replicate_succ, List.replicate_succ, List.flatten_cons, List.flatten_cons]
    exact h.append (rep_dp h n)
theorem lift_repT {K : PySem.W.Frag} : Lift2T K (rRepT K) gRepT := fun S H x y d e P Q sm dx dy hg q q2 => by
  unfold gRepT at hg
  split at hg
  · rename_i ds k
    cases dx with
    | tup s1 a1 =>
      cases dy
      have h1 := a1.len
      exact ⟨_, _, _, rfl, rfl, same_sqT sm s1, fun e => hg.1 (List.eq_nil_of_length_eq_zero (by rw [← h1, e]; rfl)), hg.2.1, hg.2.2.1, by rw [h1]; exact hg.2.2.2.1, fun p n => q2 p _ _ n hg.2.2.2.2 (rep_dp a1 _)⟩
  · exact hg.elim
theorem ev_repT {X : Cx} {a b : Expr} {ta tb : TE} {wa wb : W1} {pos : Pos} (ha : EV X a ta wa) (hb : EV X b tb wb) : EV X (.BinOp a .Mult b pos) (tOp (rRepT X.K) ta tb) (wOp gRepT wa wb) := ⟨pe_op op_repT ha.pe hb.pe, snd_opT lift_repT ha.sd hb.sd⟩
def rAddS : R2 := fun x y H Q => ∃ i j : Str, x = .str i ∧ y = .str j ∧ i.length + j.length ≤ sizeLine ∧ Q (.str (i ++ j)) H
def gAddS : PyData → PyData → (PyData → Prop) → Prop := fun x y P => match x, y with
  | .str s, .str t => s.length + t.length ≤ sizeLine ∧ P (.str (s ++ t))
  | _, _ => False
theorem lift_addS {K : PySem.W.Frag} : Lift2 K rAddS gAddS := fun S H x y d e P Q sm dx dy hg q => by
  unfold gAddS at hg
  split at hg
  · cases dx
    cases dy
    exact ⟨_, _, rfl, rfl, hg.1, q _ _ hg.2 (.str _)⟩
  · exact hg.elim
theorem ev_addS {X : Cx} {a b : Expr} {ta tb : TE} {wa wb : W1} {pos : Pos} (ha : EV X a ta wa) (hb : EV X b tb wb) : EV X (.BinOp a .Add b pos) (tOp rAddS ta tb) (wOp gAddS wa wb) := ev_bin op_add_str lift_addS ha hb
end Tr
set_option Elab.async false
set_option linter.all false
set_option maxRecDepth 100000
set_option maxHeartbeats 2000000
/-! TrT: sets of texts, of any size: len(set(xs)), sorted(set(xs)) -/
namespace Tr
open PySem PySem.Spec PyProof.Rows L2
variable [Tabbed]
/-! ### what a set of texts is -/
def keyS (e : Int × Value) : Str := match e.2 with
  | .str x _ => x
  | _ => Str.empty
def GoodS (w : World) (e : Int × Value) : Prop := ∃ x t, e.2 = Value.str x t ∧ e.1 = hashStr w x
/-- how the table stands: it rises and can be walked -/
def TabS (w : World) (es : Array (Int × Value)) (t : SetTable) : Prop := t.fits es.size = true ∧ Ris t.place.toList ∧ (w.params.followText "set-order" = true ∨ t.led = true)
def SetS (w : World) (h : Heap) (a : Addr) (L : List Str) : Prop := ∃ (o : Obj) (es : Array (Int × Value)) (ep : Nat) (t : SetTable), h.get? a = some o ∧ (o.ExactSet ∧ o.data = .set es ep t) ∧
  ((∀ e ∈ es.toList, GoodS w e) ∧ (es.toList.map keyS).Perm L ∧ L.Nodup) ∧ L.length < scanBound ∧ TabS w es t
section
variable {P : Program} {w : World} {h h' : Heap} {a : Addr} {L : List Str}
theorem SetS.keep (R : SetS w h a L) (k : ∀ o, h.get? a = some o → h'.get? a = some o) : SetS w h' a L := by
  obtain ⟨o, es, ep, t, ho, r⟩ := R
  exact ⟨o, es, ep, t, k o ho, r⟩
theorem good_elS {l : List (Int × Value)} (g : ∀ e ∈ l, GoodS w e) : ElemsOf (strKind P w) l := fun e he => by
  obtain ⟨x, t, h1, h2⟩ := g e he
  exact ⟨⟨x, by rw [h1]; exact strKind_is P w x t, h2⟩, by rw [h1] <;> rfl⟩
theorem good_isS {e : Int × Value} (g : GoodS w e) (x : Str) : (strKind P w).is x e.2 = true ↔ keyS e = x := by
  obtain ⟨y, t, h1, _⟩ := g
  unfold keyS
  rw [h1]
  constructor
  · intro h
    exact ((strKind P w).inj _ _ _ h (strKind_is P w y t)).symm
  · rintro rfl
    exact strKind_is P w y t
theorem good_inS {l : List (Int × Value)} (g : ∀ e ∈ l, GoodS w e) (x : Str) : x ∈ l.map keyS ↔ ∃ e ∈ l, (strKind P w).is x e.2 = true := by
  rw [List.mem_map]
  exact ⟨fun ⟨e, he, q⟩ => ⟨e, he, (good_isS (g e he) x).2 q⟩, fun ⟨e, he, q⟩ => ⟨e, he, (good_isS (g e he) x).1 q⟩⟩
end
section
variable {P : Program} {w : World} {A : Around} {E : Value → Shared → Prop} {s : Shared} {a : Addr} {L : List Str}
/-- the new table is laid down, and grows if it must -/
theorem layS {g : Bool → Sem Unit} (hg : ∀ (b : Bool) (s1 : Shared) (Q' : Unit → Shared → Prop), Q' () s1 → wpAny (model P w) A (g b) Q' E s1) {o : Obj} {es : Array (Int × Value)} {ep : Nat} {t : SetTable} (ho : s.heap.get? a = some o) (hx : o.ExactSet ∧ o.data = .set es ep t)
    {es1 : Array (Int × Value)} {t2 : SetTable} (g1 : (∀ e ∈ es1.toList, GoodS w e) ∧ (es1.toList.map keyS).Perm L ∧ L.Nodup) (room : L.length < scanBound) (T : TabS w es1 t2) {wasDummy : Bool} {R : Option Bool → Shared → Prop}
    (fin : ∀ h', Heap.SameBut a s.heap h' → SetS w h' a L → R (some true) { s with heap := h' }) :
    wpAny (model P w) A (do
        storeSet a es1 t2
        if (!wasDummy && t2.tooFull) = true then do
            g (relayAll t2 es1 (SetTable.grown es1.size)).2.2
            storeSet a (relayAll t2 es1 (SetTable.grown es1.size)).1 (relayAll t2 es1 (SetTable.grown es1.size)).2.1
            pure (some true)
          else pure (some true)) R E s := by
  have size1 : es1.size = L.length := by
    have := g1.2.1.length_eq
    rw [List.length_map, Array.length_toList] at this
    exact this
  have few : es1.size < scanBound := by rw [size1]; exact room
  refine wpAny_bind (wpAny_storeSet_of ho hx.2 ?_ (fits_of_scanBound few))
  have at1 := store_at (es' := es1) (t' := t2) ho hx.2
  have but1 := Heap.SameBut.update s.heap a (Obj.putSet es1 t2)
  split
  · have pm := relayAll_perm t2 es1 (SetTable.grown es1.size)
    have f3 := relayAll_fits t2 es1 (SetTable.grown es1.size)
    have r3 := relayAll_ris t2 es1 (SetTable.grown es1.size)
    have l3 := relayAll_led t2 es1 (SetTable.grown es1.size)
    generalize relayAll t2 es1 (SetTable.grown es1.size) = Z at pm f3 r3 l3 ⊢
    obtain ⟨es2, t3, gave⟩ := Z
    dsimp only at pm f3 r3 l3 ⊢
    have size2 : es2.size = es1.size := by rw [← Array.length_toList, pm.length_eq, Array.length_toList]
    refine wpAny_bind (hg _ _ _ ?_)
    refine wpAny_bind (wpAny_storeSet_of at1 rfl ?_ (fits_of_scanBound (by rw [size2]; exact few)))
    have at2 := store_at (es' := es2) (t' := t3) at1 rfl
    refine wpAny_pure (fin _ (but1.trans (Heap.SameBut.update _ a _)) ⟨_, es2, _, t3, at2, ⟨hx.1, rfl⟩, ⟨fun e he => g1.1 e (pm.mem_iff.mp he), (pm.map keyS).trans g1.2.1, g1.2.2⟩, room, f3, r3, T.2.2.imp id fun z => l3.trans z⟩)
  · exact wpAny_pure (fin _ but1 ⟨_, es1, _, t2, at1, ⟨hx.1, rfl⟩, g1, room, T⟩)
theorem addS {x : Str} {tk : Tok} {Q : Bool → Shared → Prop} (R : SetS w s.heap a L) (room : L.length + 1 < scanBound) (old : x ∈ L → Q false s)
    (new : x ∉ L → ∀ h', Heap.SameBut a s.heap h' → SetS w h' a (x :: L) → Q true { s with heap := h' }) :
    wpAny (model P w) A (setAddHashed a (.str x tk) (hashStr w x)) Q E s := by
  obtain ⟨o, es, ep, t, ho, hx, ⟨g, pm0, one⟩, hb, hf, hr, hl⟩ := R
  have key : (strKind P w).is x (.str x tk) = true := strKind_is P w x tk
  have scan : (Value.str x tk).scannable = true := rfl
  have els : ElemsOf (strKind P w) es.toList := good_elS g
  have size0 : es.size = L.length := by
    have := pm0.length_eq
    rw [List.length_map, Array.length_toList] at this
    exact this
  have inL : x ∈ L ↔ ∃ e ∈ es.toList, (strKind P w).is x e.2 = true := pm0.mem_iff.symm.trans (good_inS (P := P) g x)
  unfold setAddHashed setAddHashedIn
  refine wpAny_holding (wpAny_bind (wpAny_setState_of ho hx.2 hf ?_))
  dsimp only
  rw [byScan_of scan (by rw [size0]; exact hb) els]
  simp only [↓reduceIte]
  unfold setAddByScan
  refine wpAny_bind (wpAny_bind (wpAny_rule (wpAny_bind (wpAny_setScan_of (k := x) key ho hx.2 hf els ?_))))
  cases hfi : List.findIdx? (fun e => (strKind P w).is x e.2) es.toList with
  | some j =>
    dsimp only
    obtain ⟨hj, pj, _⟩ := List.findIdx?_eq_some_iff_getElem.mp hfi
    exact wpAny_pure (wpAny_pure (old (inL.mpr ⟨es.toList[j], List.getElem_mem hj, pj⟩)))
  | none =>
    dsimp only
    have nx : x ∉ L := fun z => by
      obtain ⟨e, he, q⟩ := inL.mp z
      have c := List.findIdx?_eq_none_iff.mp hfi e he
      rw [q] at c
      cases c
    have gave : ∀ (b : Bool) {s1 : Shared} {Q' : Unit → Shared → Prop}, Q' () s1 → wpAny (model P w) A (match b with | true => rule "set.scan.the-table-gave-way" | false => pure ()) Q' E s1 :=
      fun b s1 Q' q => by cases b <;> first | exact wpAny_pure q | exact wpAny_rule q
    have pm := layNew_perm t es (hashStr w x) (.str x tk)
    have f1 := layNew_fits t es (hashStr w x) (.str x tk)
    have r1 := layNew_ris t es (hashStr w x) (.str x tk) hr
    have l1 := layNew_led t es (hashStr w x) (.str x tk)
    show wpAny (model P w) A (match layNew t es (hashStr w x) (.str x tk) with | (es1, t1, wasDummy, gave) => _) _ E s
    generalize layNew t es (hashStr w x) (.str x tk) = Z at pm f1 r1 l1 ⊢
    obtain ⟨es1, t1, wasDummy, gv⟩ := Z
    dsimp only at pm f1 r1 l1 ⊢
    rw [Array.toList_push] at pm
    have pc : es1.toList.Perm ((hashStr w x, Value.str x tk) :: es.toList) := pm.trans (List.perm_append_singleton _ _)
    have pk : (es1.toList.map keyS).Perm (x :: L) := (pc.map keyS).trans (List.Perm.cons x pm0)
    have g1 : ∀ e ∈ es1.toList, GoodS w e := fun e he => by
      rcases List.mem_cons.mp (pc.mem_iff.mp he) with z | z
      · rw [z]; exact ⟨x, tk, rfl, rfl⟩
      · exact g e z
    have led : w.params.followText "set-order" = true ∨ t1.led = true := hl.imp id fun z => l1.trans z
    refine wpAny_bind (gave _ ?_)
    have all : (∀ e ∈ es1.toList, GoodS w e) ∧ (es1.toList.map keyS).Perm (x :: L) ∧ (x :: L).Nodup := ⟨g1, pk, List.nodup_cons.mpr ⟨nx, one⟩⟩
    split
    · refine wpAny_bind ?_
      rw [hashByValue_scannable 8 scan]
      refine wpAny_pure ?_
      refine layS ?_ ho hx all room ⟨?_, ?_, ?_⟩ ?_
      · intro b s1 Q' q; cases b <;> first | exact wpAny_pure q | exact wpAny_rule q
      · first | (split <;> first | exact f1 | exact SetTable.fits_plain_off f1) | exact f1
      · first | (split <;> exact r1) | exact r1
      · first | (split <;> exact led) | exact led
      · intro h' sb r; dsimp only; exact wpAny_pure (new nx h' sb r)
    · refine wpAny_bind (wpAny_pure ?_)
      simp only [↓reduceIte]
      refine layS ?_ ho hx all room ⟨f1, r1, led⟩ ?_
      · intro b s1 Q' q; cases b <;> first | exact wpAny_pure q | exact wpAny_rule q
      · intro h' sb r; dsimp only; exact wpAny_pure (new nx h' sb r)
end
end Tr
namespace Tr
open PySem PySem.Spec PyProof.Rows L2
variable [Tabbed]
/-- the set has what the first i items are -/
structure SoS (ks : List Str) (i : Nat) (L : List Str) : Prop where
  same : ∀ x, x ∈ L ↔ x ∈ ks.take i
  small : L.length ≤ i
theorem take_next {α : Type} {l : List α} {i : Nat} {y : α} (e : l[i]? = some y) : l.take (i + 1) = l.take i ++ [y] := by
  rw [List.take_succ, e] <;> rfl
theorem SoS.twice {ks L : List Str} {i : Nat} {y : Str} (g : SoS ks i L) (e : ks[i]? = some y) (m : y ∈ L) : SoS ks (i + 1) L where
  same := fun x => by
    rw [take_next e, List.mem_append, List.mem_singleton, ← g.same x]
    exact ⟨.inl, fun h => h.elim id fun z => z ▸ m⟩
  small := Nat.le_succ_of_le g.small
theorem SoS.next {ks L : List Str} {i : Nat} {y : Str} (g : SoS ks i L) (e : ks[i]? = some y) : SoS ks (i + 1) (y :: L) where
  same := fun x => by
    rw [take_next e, List.mem_append, List.mem_singleton, List.mem_cons, ← g.same x]
    exact Or.comm
  small := Nat.succ_le_succ g.small
section
variable {P : Program} {w : World} {A : Around} {E : Value → Shared → Prop} {s : Shared}
theorem loopS {I : Addr} {fp wr : List Addr} {G : Array GenState → Array GenState → Prop} {n : Nat} {Pv : Nat → Value → Prop} {St : Nat → Shared → Prop} {Rs : Result → Shared → Prop}
    (W : WalksS P w A.in1 I fp wr G n Pv St) (S : Addr) (nS : S ∉ fp) (ks : List Str) (hn : n = ks.length) (few : ks.length < scanBound) (hv : ∀ i v, Pv i v → ∃ x t, ks[i]? = some x ∧ v = .str x t) (m : Nat) :
    ∀ (i : Nat) (s : Shared), n = i + m → St i s → (∃ L, SetS w s.heap S L ∧ SoS ks i L) →
      (∀ s1 L, Moved (S :: wr) G s s1 → SetS w s1.heap S L → SoS ks n L → Rs (.ok (.ret .none)) s1) →
      codeAny (model P w) A (.builtin "set.update.loop" ⟨[.ref S, .ref I], []⟩) Rs s := by
  have nw : S ∉ wr := fun h => nS (W.sub S h)
  have wide : ∀ b ∈ wr, b ∈ S :: wr := fun b hb => .tail _ hb
  induction m with
  | zero =>
    rintro i s hi st ⟨L, R, g⟩ fin
    obtain rfl : n = i := hi
    refine codeAny_builtin F.entry_set_update_loop ?_
    rw [Around.under_plainId F.plain_set_update_loop _]
    exact wpAny_bind (W.done s _ _ st fun s1 mv => wpAny_pure (fin s1 L (mv.mono wide) (R.keep fun u e => mv.heap S u nw e) g))
  | succ m ih =>
    rintro i s hi st ⟨L, R, g⟩ fin
    refine codeAny_builtin F.entry_set_update_loop ?_
    rw [Around.under_plainId F.plain_set_update_loop _]
    refine wpAny_bind (W.item i s _ _ (by omega) st fun v s1 pv st1 mv => ?_)
    obtain ⟨x, tk, hq, rfl⟩ := hv i v pv
    have R1 : SetS w s1.heap S L := R.keep fun u e => mv.heap S u nw e
    have small := g.small
    have step : ∀ (h2 : Heap) (tk : Nat) (L2 : List Str), s1.toks ≤ tk → Heap.SameBut S s1.heap h2 → SetS w h2 S L2 → SoS ks (i + 1) L2 →
        codeAny (model P w) A (.builtin "set.update.loop" ⟨[.ref S, .ref I], []⟩) Rs { s1 with heap := h2, toks := tk } := fun h2 tk L2 htk sb R2 g2 => by
      have off : ∀ b, b ≠ S → ∀ u, s1.heap.get? b = some u → h2.get? b = some u := fun b hb u e => (sb.2 b hb).trans e
      refine ih (i + 1) _ (by omega) (W.frame _ s1 _ _ st1 htk fun b hb u e => off b (fun z => nS (z ▸ hb)) u e) ⟨L2, R2, g2⟩ fun s3 L3 mv3 R3 g3 => ?_
      exact fin s3 L3 (Moved.trans W.gtrans ((mv.mono wide).then_heap htk fun b u hb e => off b (fun z => hb (z ▸ .head _)) u e) mv3) R3 g3
    refine wpAny_bind (wpAny_holding ?_)
    unfold setAdd
    refine wpAny_holding (wpAny_bind ((strKind P w).pyHash (k := x) (strKind_is P w x tk) ?_))
    have lt : i < ks.length := by omega
    refine addS (s := { s1 with toks := s1.toks + 1 }) R1 (by omega) (fun hm => ?_) fun hm h1 sb R2 => ?_
    · exact wpAny_pure ⟨plainId_quiet F.plain_set_update_loop _, step s1.heap _ L (Nat.le_succ _) (Heap.SameBut.refl S s1.heap) R1 (g.twice hq hm)⟩
    · exact wpAny_pure ⟨plainId_quiet F.plain_set_update_loop _, step h1 _ (x :: L) (Nat.le_succ _) sb R2 (g.next hq)⟩
theorem setS_new {h : Heap} {b : Addr} (e : h.get? b = some (freshX w)) : SetS w h b [] := by
  refine ⟨_, #[], 0, _, e, ⟨⟨rfl, rfl, rfl⟩, rfl⟩, ⟨(fun e he => by simp at he), List.Perm.nil, List.nodup_nil⟩, (by decide), rfl, List.Pairwise.nil, ?_⟩
  by_cases c : w.params.followText "set-order" = true
  · exact .inl c
  · refine .inr ?_
    show (!w.params.followText "set-order") = true
    simp [c]
theorem texts_at {us : List Value} {ks : List Str} (h : StrsAre us ks) : ∀ {i : Nat} {v : Value}, us[i]? = some v → ∃ x t, ks[i]? = some x ∧ v = Value.str x t := by
  induction h with
  | nil =>
    intro i v e
    simp at e
  | cons x t _ ih =>
    intro i v e
    cases i with
    | zero =>
      simp at e
      exact ⟨x, t, rfl, e.symm⟩
    | succ i =>
      obtain ⟨y, t2, h1, h2⟩ := ih (by simpa using e)
      exact ⟨y, t2, by simpa using h1, h2⟩
set_option maxHeartbeats 6400000 in
theorem call_setS_list {l : Addr} {items : Array Value} (ks : List Str) {Q : Value → Shared → Prop} (hh : A.handled = none) (hl : s.heap.IsList l items) (hit : StrsAre items.toList ks) (few : ks.length < scanBound)
    (fin : ∀ (h1 : Heap) (tk : Nat) L, SetS w h1 s.heap.objs.size L → SoS ks ks.length L → (∀ c u, s.heap.get? c = some u → h1.get? c = some u) → Q (.ref s.heap.objs.size) { s with heap := h1, toks := tk }) :
    wpAny (model P w) A (call (.type "set") [.ref l]) Q E s := by
  have size : items.size = ks.length := by rw [← Array.length_toList, StrsAre.len_eq hit]
  obtain ⟨c0, tl0, m0⟩ := F.called_set.mro
  have m1 := F.called_set.made
  have m2 := F.called_set.sub
  have m3 := F.called_set.notType
  have m4 := F.called_set.canCreate
  have m5 := F.typeCall_set_1 (.ref l)
  refine wpAny_call (codeAny_of_tree ?_)
  refine wpAny_pure ⟨Code.quiet_builtin _ (by decide +kernel), codeAny_builtin F.entry_type_call ?_⟩
  rw [Around.under_plain (weight_type_call_type "set" [.ref l] []) rfl]
  repeat (any_goals (first | assumption | wp_step))

  refine codeAny_mono (code_set_led1 (.ref l) (E := E) (Q₁ := fun v s1 => v = .ref s.heap.objs.size ∧ s1 = { s with heap := s.heap.push (freshX w) }) ⟨rfl, rfl⟩) fun r s1 hr => ?_
  match r, hr with
  | .error e, hr => exact hr
  | .ok (.ret v), hr =>
    obtain ⟨rfl, rfl⟩ := hr
    have newS : (s.heap.push (freshX w)).get? s.heap.objs.size = some (freshX w) := Heap.get?_push_size _ rfl
    have tyS : Shared.TypeIs { s with heap := s.heap.push (freshX w) } (.ref s.heap.objs.size) "set" := ⟨_, newS, rfl⟩
    have i1 := F.called_set.init.lookup
    have i2 := F.called_set.init.bind (.ref s.heap.objs.size)
    repeat (any_goals (first | assumption | wp_step))

    refine codeAny_mono (codeAny_call_builtin (R := wants (fun v s2 => v = .none ∧ ∃ h1 tk L, s2 = { s with heap := h1, toks := tk } ∧ SetS w h1 s.heap.objs.size L ∧ SoS ks ks.length L ∧
        (∀ c u, s.heap.get? c = some u → h1.get? c = some u)) E) F.called_set.init.plain F.entry_set_init (check_set_init_1 tyS ?_)) fun r2 s2 hr2 => ?_
    · obtain ⟨⟨oc, od, oa, os⟩, hol, hc1, nl, hd1⟩ := hl
      dsimp only at hc1 hd1
      subst hc1 hd1
      have seqS : (s.heap.push (freshX w)).IsList l items := ⟨_, Heap.get?_push_of_some _ hol, rfl, nl, rfl⟩
      have hol2 := Heap.get?_push_of_some (freshX w) hol
      have b1 := F.sub_list_set
      have b2 := F.sub_list_frozenset
      have b3 : (Value.type "list" == Value.type "dict") = false := by decide
      unfold Builtin.«set.__init__» noKeywords Builtin.Frozenset.updateFrom
      generalize hPI : pyIter = PI
      wp_walk
      subst hPI

      refine wpAny_pyIter_list seqS ?_
      refine wpAny_bind (wpAny_runValue ?_)
      have z1 : (s.heap.push (freshX w)).objs.size = s.heap.objs.size + 1 := Heap.size_push ..
      have low : @LT.lt Nat _ l s.heap.objs.size := Heap.lt_size hol
      have ne1 : l ≠ (s.heap.push (freshX w)).objs.size := by
        rw [z1]
        exact Nat.ne_of_lt (Nat.lt_succ_of_lt low)
      have hh3 : A.in1.in1.in1.handled = none := by simp [hh]
      refine loopS ((Walks.list hh3 _ l ne1 items).toS) s.heap.objs.size (by
          rw [z1, List.mem_cons, List.mem_singleton]
          rintro (z | z)
          · exact absurd z (Nat.ne_of_lt (Nat.lt_succ_self _))
          · exact absurd z (Nat.ne_of_gt low)) ks size few (fun i v hv => ?_) items.size 0 _ (by omega) ⟨⟨_, Heap.get?_push_size _ rfl, rfl, rfl⟩, (seqS.push _)⟩ ⟨[], setS_new (Heap.get?_push_of_some _ newS), ⟨(fun x => by simp), Nat.le_refl _⟩⟩ fun s3 L mv R3 g3 => ?_
      · exact texts_at hit (by rw [Array.getElem?_toList]; exact hv)
      · obtain ⟨h3, g3', d3, tk3, os3⟩ := s3
        obtain rfl : g3' = s.gens := mv.gens
        obtain rfl : d3 = s.drawn := mv.drawn
        obtain rfl : os3 = s.os := mv.os
        refine wpAny_pure ?_
        rw [size] at g3
        refine wpAny_pure ⟨rfl, h3, tk3, L, rfl, R3, g3, fun c u e => ?_⟩
        have lt : @LT.lt Nat _ c s.heap.objs.size := Heap.lt_size e
        refine mv.heap c u ?_ (Heap.get?_push_of_some _ (Heap.get?_push_of_some _ e))
        rw [List.mem_cons, List.mem_singleton, z1]
        rintro (z | z)
        · exact absurd z (Nat.ne_of_lt lt)
        · exact absurd z (Nat.ne_of_lt (Nat.lt_succ_of_lt lt))
    · match r2, hr2 with
      | .error e, hr2 => exact hr2
      | .ok (.ret v), hr2 =>
        obtain ⟨rfl, h1, tk, L, rfl, R1, g1, up1⟩ := hr2
        repeat (any_goals (first | assumption | wp_step))
        exact fin _ _ _ R1 g1 up1
set_option maxHeartbeats 6400000 in
theorem call_setS_tuple {l : Addr} {items : Array Value} (ks : List Str) {Q : Value → Shared → Prop} (hh : A.handled = none) (hl : s.heap.IsTuple l items) (hit : StrsAre items.toList ks) (few : ks.length < scanBound)
    (fin : ∀ (h1 : Heap) (tk : Nat) L, SetS w h1 s.heap.objs.size L → SoS ks ks.length L → (∀ c u, s.heap.get? c = some u → h1.get? c = some u) → Q (.ref s.heap.objs.size) { s with heap := h1, toks := tk }) :
    wpAny (model P w) A (call (.type "set") [.ref l]) Q E s := by
  have size : items.size = ks.length := by rw [← Array.length_toList, StrsAre.len_eq hit]
  obtain ⟨c0, tl0, m0⟩ := F.called_set.mro
  have m1 := F.called_set.made
  have m2 := F.called_set.sub
  have m3 := F.called_set.notType
  have m4 := F.called_set.canCreate
  have m5 := F.typeCall_set_1 (.ref l)
  refine wpAny_call (codeAny_of_tree ?_)
  refine wpAny_pure ⟨Code.quiet_builtin _ (by decide +kernel), codeAny_builtin F.entry_type_call ?_⟩
  rw [Around.under_plain (weight_type_call_type "set" [.ref l] []) rfl]
  repeat (any_goals (first | assumption | wp_step))

  refine codeAny_mono (code_set_led1 (.ref l) (E := E) (Q₁ := fun v s1 => v = .ref s.heap.objs.size ∧ s1 = { s with heap := s.heap.push (freshX w) }) ⟨rfl, rfl⟩) fun r s1 hr => ?_
  match r, hr with
  | .error e, hr => exact hr
  | .ok (.ret v), hr =>
    obtain ⟨rfl, rfl⟩ := hr
    have newS : (s.heap.push (freshX w)).get? s.heap.objs.size = some (freshX w) := Heap.get?_push_size _ rfl
    have tyS : Shared.TypeIs { s with heap := s.heap.push (freshX w) } (.ref s.heap.objs.size) "set" := ⟨_, newS, rfl⟩
    have i1 := F.called_set.init.lookup
    have i2 := F.called_set.init.bind (.ref s.heap.objs.size)
    repeat (any_goals (first | assumption | wp_step))

    refine codeAny_mono (codeAny_call_builtin (R := wants (fun v s2 => v = .none ∧ ∃ h1 tk L, s2 = { s with heap := h1, toks := tk } ∧ SetS w h1 s.heap.objs.size L ∧ SoS ks ks.length L ∧
        (∀ c u, s.heap.get? c = some u → h1.get? c = some u)) E) F.called_set.init.plain F.entry_set_init (check_set_init_1 tyS ?_)) fun r2 s2 hr2 => ?_
    · obtain ⟨⟨oc, od, oa, os⟩, hol, hc1, nl, hd1⟩ := hl
      dsimp only at hc1 hd1
      subst hc1 hd1
      have seqS : (s.heap.push (freshX w)).IsTuple l items := ⟨_, Heap.get?_push_of_some _ hol, rfl, nl, rfl⟩
      have hol2 := Heap.get?_push_of_some (freshX w) hol
      have b1 := F.sub_tuple_set
      have b2 := F.sub_tuple_frozenset
      have b3 : (Value.type "tuple" == Value.type "dict") = false := by decide
      unfold Builtin.«set.__init__» noKeywords Builtin.Frozenset.updateFrom
      generalize hPI : pyIter = PI
      wp_walk
      subst hPI

      refine wpAny_pyIter_tuple seqS ?_
      refine wpAny_bind (wpAny_runValue ?_)
      have z1 : (s.heap.push (freshX w)).objs.size = s.heap.objs.size + 1 := Heap.size_push ..
      have low : @LT.lt Nat _ l s.heap.objs.size := Heap.lt_size hol
      have ne1 : l ≠ (s.heap.push (freshX w)).objs.size := by
        rw [z1]
        exact Nat.ne_of_lt (Nat.lt_succ_of_lt low)
      have hh3 : A.in1.in1.in1.handled = none := by simp [hh]
      refine loopS ((Walks.tuple hh3 _ l ne1 items).toS) s.heap.objs.size (by
          rw [z1, List.mem_cons, List.mem_singleton]
          rintro (z | z)
          · exact absurd z (Nat.ne_of_lt (Nat.lt_succ_self _))
          · exact absurd z (Nat.ne_of_gt low)) ks size few (fun i v hv => ?_) items.size 0 _ (by omega) ⟨⟨_, Heap.get?_push_size _ rfl, rfl, rfl⟩, (seqS.push _)⟩ ⟨[], setS_new (Heap.get?_push_of_some _ newS), ⟨(fun x => by simp), Nat.le_refl _⟩⟩ fun s3 L mv R3 g3 => ?_
      · exact texts_at hit (by rw [Array.getElem?_toList]; exact hv)
      · obtain ⟨h3, g3', d3, tk3, os3⟩ := s3
        obtain rfl : g3' = s.gens := mv.gens
        obtain rfl : d3 = s.drawn := mv.drawn
        obtain rfl : os3 = s.os := mv.os
        refine wpAny_pure ?_
        rw [size] at g3
        refine wpAny_pure ⟨rfl, h3, tk3, L, rfl, R3, g3, fun c u e => ?_⟩
        have lt : @LT.lt Nat _ c s.heap.objs.size := Heap.lt_size e
        refine mv.heap c u ?_ (Heap.get?_push_of_some _ (Heap.get?_push_of_some _ e))
        rw [List.mem_cons, List.mem_singleton, z1]
        rintro (z | z)
        · exact absurd z (Nat.ne_of_lt lt)
        · exact absurd z (Nat.ne_of_lt (Nat.lt_succ_of_lt lt))
    · match r2, hr2 with
      | .error e, hr2 => exact hr2
      | .ok (.ret v), hr2 =>
        obtain ⟨rfl, h1, tk, L, rfl, R1, g1, up1⟩ := hr2
        repeat (any_goals (first | assumption | wp_step))
        exact fin _ _ _ R1 g1 up1
/-- what a set's members are, sorted -/
theorem sorted_setS {a : Addr} {L : List Str} {Q : Value → Shared → Prop} (R : SetS w s.heap a L) (hh : A.handled = none) (hu : A.units + 9 < cLine)
    (fin : ∀ (s1 : Shared) (p : Addr) (out : Array Value) (c : Nat) (ys : List Str), (∀ b u, s.heap.get? b = some u → s1.heap.get? b = some u) → s1.gens = s.gens → s1.os = s.os → s.heap.objs.size ≤ p →
      s1.heap.get? p = some (seqObj "list" out c) → StrsAre out.toList ys → ys.Perm L → ys.Pairwise StrLt → Q (.ref p) s1) :
    wpAny (model P w) A (call (.builtin "sorted") [.ref a]) Q E s := by
  obtain ⟨o, es, ep, t, ho, hx, ⟨g, pm0, one⟩, hb, hf, hr, hl⟩ := R
  have size0 : es.size = L.length := by
    have := pm0.length_eq
    rw [List.length_map, Array.length_toList] at this
    exact this
  refine Calls.call_function_entry kind_sorted plain_sorted entry_sorted (args_sorted1 _) ?_
  unfold Builtin.«sorted»
  refine wpAny_bind (m := checkCount "sorted" 1 1 _) (wpAny_pure ?_)
  refine wpAny_bind (collect_set (A := A.in1) hh ⟨o, ho, hx.1.1, hx.2⟩ hf (by rw [size0]; exact hb) hr hl fun s1 vs up hz g1 o1 pm => ?_)
  obtain ⟨ent, p1, rfl⟩ := lift_perm pm es.toList rfl
  have gent : ∀ e ∈ ent, GoodS w e := fun e he => g e (p1.mem_iff.mp he)
  have len1 : (ent.map fun e => e.2).length = L.length := by rw [List.length_map, p1.length_eq, Array.length_toList, size0]
  have big : L.length < 4096 := hb
  have each : ∀ l : List (Int × Value), (∀ e ∈ l, GoodS w e) → PySem.W.EachIs (fun (v : Value) (x : Str) => ∃ t, v = .str x t) (l.map fun e => e.2) (l.map keyS) := fun l => by
    induction l with
    | nil => exact fun _ => .nil
    | cons e l ih =>
      intro hg
      obtain ⟨x, t, h1, _⟩ := hg e (.head _)
      refine .cons ⟨t, ?_⟩ (ih fun e he => hg e (.tail _ he))
      show e.2 = Value.str (keyS e) t
      unfold keyS
      rw [h1]
  have txts : ∀ {us : List Value} {ys : List Str}, PySem.W.EachIs (fun (v : Value) (x : Str) => ∃ t, v = .str x t) us ys → StrsAre us ys := fun h => by
    induction h with
    | nil => exact .nil
    | cons h1 _ ih =>
      obtain ⟨t, rfl⟩ := h1
      exact .cons _ t ih
  have at1 : (s1.heap.push (seqObj "list" (ent.map fun e => e.2).toArray 0)).get? s1.heap.objs.size = some (seqObj "list" (ent.map fun e => e.2).toArray 0) := Heap.get?_push_size _ rfl
  have reads : ∀ l : List (Int × Value), (∀ e ∈ l, GoodS w e) → PySem.W.EachIs (fun (v : Value) (x : Str) => ∃ as, Reads (s1.heap.push (seqObj "list" (ent.map fun e => e.2).toArray 0)) v (PyData.str x) as ∧ s1.heap.objs.size ∉ as) (l.map fun e => e.2) (l.map keyS) := fun l => by
    induction l with
    | nil => exact fun _ => .nil
    | cons e l ih =>
      intro hg
      obtain ⟨x, t, h1, _⟩ := hg e (.head _)
      refine .cons ⟨[], ?_, fun z => nomatch z⟩ (ih fun e he => hg e (.tail _ he))
      show Reads _ e.2 (PyData.str (keyS e)) []
      unfold keyS
      rw [h1]
      exact .str _ _
  refine wpAny_bind (wpAny_newList ?_ (by rw [len1, sizeLine_eq]; omega))
  refine wpAny_bind (wpAny_holding (PySem.W.list_sort_data (s := { s1 with heap := s1.heap.push (seqObj "list" (ent.map fun e => e.2).toArray 0) }) (R := fun (v : Value) (x : Str) => ∃ t, v = .str x t) (enc := fun x : Str => PyData.str x) (bs := ent.map keyS) at1 (each ent gent) (reads ent gent)
    (PySem.W.AllAlike.of fun x y => by simp [PySem.W.alike]) (PySem.W.Sortable.others fun x => ⟨(fun z => nomatch z), fun xs z => nomatch z⟩) (by rw [List.length_map, ← List.length_map (f := fun e => e.2), len1, sizeLine_eq]; omega) (fun x hx => by
      have h1 : A.in1.units ≤ A.units + 3 := by simp
      have h2 : (PyData.str x).depth = 0 := by simp [PyData.depth]
      omega) fun out h1 h2 => ?_))
  obtain ⟨c, hc⟩ := sortedHeap_at (vs := ent.map fun e => e.2) (out := out.toArray) at1
  have pmN : ((ent.map keyS).mergeSort (PySem.W.dataLe false fun x : Str => PyData.str x)).Perm L := (List.mergeSort_perm _ _).trans ((p1.map keyS).trans pm0)
  refine wpAny_pure ⟨_, rfl, fin _ s1.heap.objs.size out.toArray c _ (fun b u e => ?_) g1 o1 hz hc (txts h2) pmN ?_⟩
  · have e1 := up b u e
    have lt := Heap.lt_size e1
    refine (sortedHeap_old (Nat.ne_of_lt lt) ?_).trans (Heap.get?_push_of_some _ e1)
    rw [size_push']
    exact Nat.lt_succ_of_lt lt
  · have tl : PySem.W.TotalLe (PySem.W.dataLe false fun x : Str => PyData.str x) := PySem.W.sortLe_total _ _ _
    have pw := PySem.W.sort_pairwise tl (ent.map keyS)
    have one2 := pmN.nodup_iff.mpr one
    refine (pw.and one2).imp fun {m n} h => text_lt ?_ h.2
    have h1 : (!PySem.W.dataLt (PyData.str n) (PyData.str m)) = true := h.1
    rw [PySem.W.dataLt_str] at h1
    simpa using h1
end
end Tr
set_option Elab.async false
set_option linter.all false
set_option maxRecDepth 100000
set_option maxHeartbeats 2000000
/-! TrT2: the rules of len(set(texts)) and sorted(set(texts)) -/
namespace Tr
open PySem PySem.Spec PyProof.Rows L2
variable [Tabbed]
theorem SetS.one {w : World} {h : Heap} {a : Addr} {L : List Str} (R : SetS w h a L) : L.Nodup := by
  obtain ⟨_, _, _, _, _, _, ⟨_, _, one⟩, _⟩ := R
  exact one
def SetSO (w : World) (a : Addr) (L : List Str) : HO := .ext fun h => SetS w h a L
theorem setSO_ok {P : Program} {w : World} {H : Hp} {h : Heap} {a : Addr} {L : List Str} (R : SetS w h a L) : ObjOk P w H h a (SetSO w a L) := by
  have ⟨o, _, _, _, ho, _⟩ := R
  exact ⟨R, ⟨o, ho⟩, fun h1 h2 p k => SetS.keep p k⟩
section
variable {X : Cx}
def rSetS (K : PySem.W.Frag) (w : World) : List V → Hp → VK → Prop := fun xs H Q => ∃ (l : Addr) (ks : List Str), xs = [V.ref l] ∧ (SqL K H l (ks.map V.str) ∨ SqT K H l (ks.map V.str)) ∧ ks.length < scanBound ∧
  ∀ (a : Addr) (L : List Str), H a = none → L.Nodup → (∀ x, x ∈ L ↔ x ∈ ks) → Q (.ref a) (upd H a (SetSO w a L))
theorem call_rSetS (hc : X.calm = true) : CallR X (.type "set") (rSetS X.K X.w) := by
  rintro pins s σ H xs us Q I r ⟨l, ks, rfl, hl, few, q⟩
  rw [Vals.ref1 r]
  have hn : H s.heap.objs.size = none := I.hok.fresh (Nat.le_refl _)
  rcases hl with hl | hl
  · obtain ⟨its, rv, pl, hz⟩ := I.list hl
    refine call_setS_list (P := X.prog) (w := X.w) ks (I.ok.hd hc) pl.isList (by simpa using strsAre_of rv) few fun h1 tk L R g up => ?_
    exact ⟨.ref s.heap.objs.size, upd H s.heap.objs.size (SetSO X.w s.heap.objs.size L), I.laid (t' := tk) up (Nat.le_refl _) (setSO_ok R), rfl, q _ L hn R.one fun x => by rw [g.same, List.take_length]⟩
  · obtain ⟨its, rv, pl, hz⟩ := I.tuple hl
    refine call_setS_tuple (P := X.prog) (w := X.w) ks (I.ok.hd hc) pl (by simpa using strsAre_of rv) few fun h1 tk L R g up => ?_
    exact ⟨.ref s.heap.objs.size, upd H s.heap.objs.size (SetSO X.w s.heap.objs.size L), I.laid (t' := tk) up (Nat.le_refl _) (setSO_ok R), rfl, q _ L hn R.one fun x => by rw [g.same, List.take_length]⟩
def rSortS (w : World) : List V → Hp → VK → Prop := fun vs H Q => ∃ (a : Addr) (L : List Str), vs = [V.ref a] ∧ H a = some (SetSO w a L) ∧
  ∀ (ys : List Str) (p : Addr), ys.Perm L → ys.Pairwise StrLt → H p = none → Q (.ref p) (upd H p (.lst (ys.map V.str)))
theorem vals_texts : ∀ {us : List Value} {ys : List Str}, StrsAre us ys → Vals (ys.map V.str) us
  | _, _, .nil => .nil
  | _, _, .cons x t r => .cons ⟨t, rfl⟩ (vals_texts r)
theorem call_rSortS (hc : X.calm = true) (hu : X.A.units + 64 < cLine) : CallR X (.builtin "sorted") (rSortS X.w) := by
  rintro pins s σ H vs us Q I r ⟨a, L, rfl, ha, q⟩
  have R : SetS X.w s.heap a L := (I.hok a _ ha).1
  rw [Vals.ref1 r]
  refine sorted_setS (P := X.prog) R (I.ok.hd hc) (by omega) fun s1 p out c ys up g o hp hg hout pm pw => ?_
  have few : L.length < 4096 := by
    obtain ⟨_, _, _, _, _, _, _, few, _⟩ := R
    exact few
  have ln : (ys.map V.str).length ≤ sizeLine := by rw [List.length_map, pm.length_eq, sizeLine_eq]; omega
  have hn : H p = none := I.hok.fresh hp
  have J : Inv X pins σ (upd H p (.lst (ys.map V.str))) { s with heap := s1.heap, gens := s1.gens, drawn := s1.drawn, toks := s1.toks } :=
    I.call (ch := []) (Un.laid up hp hn) (I.hok.laid up hp ⟨ln, out.toList, c, vals_texts hout, hg⟩) (by rw [g]; exact I.bare) (fun _ z => nomatch z)
  have e : s1 = { s with heap := s1.heap, gens := s1.gens, drawn := s1.drawn, toks := s1.toks } := by
    obtain ⟨b1, b2, b3, b4, b5⟩ := s1
    obtain ⟨c1, c2, c3, c4, c5⟩ := s
    dsimp only at o
    subst o
    rfl
  rw [e]
  exact ⟨.ref p, _, J, rfl, q ys p pm pw hn⟩
def rLenS (w : World) : List V → Hp → VK → Prop := fun vs H Q => ∃ (a : Addr) (L : List Str), vs = [V.ref a] ∧ H a = some (SetSO w a L) ∧ Q (.int (L.length : Nat)) H
theorem call_rLenS : CallR X (.builtin "len") (rLenS X.w) := by
  rintro pins s σ H vs us Q I r ⟨a, L, rfl, ha, q⟩
  obtain ⟨o, es, ep, t, ho, hx, ⟨g, pm0, one⟩, few, hf, _⟩ : SetS X.w s.heap a L := (I.hok a _ ha).1
  have few' : L.length < 4096 := few
  have size0 : es.size = L.length := by
    have := pm0.length_eq
    rw [List.length_map, Array.length_toList] at this
    exact this
  rw [Vals.ref1 r]
  rw [← size0] at q
  exact call_len_set ho hx.1 hx.2 hf (by omega) ⟨.int es.size, H, I.tok _, ⟨_, rfl⟩, q⟩
/-! ### over trees -/
theorem dqs_of_texts {K : PySem.W.Frag} {S : Hp} : ∀ (ks : List Str) {vs : List V}, DqAll K S vs (ks.map PyData.str) → vs = ks.map V.str
  | [], vs, h => by
    have h1 : DqAll K S vs [] := h
    cases h1
    rfl
  | k :: ks, vs, h => by
    have h1 : DqAll K S vs (PyData.str k :: ks.map PyData.str) := h
    cases h1 with
    | cons k1 k2 =>
      cases k1
      rw [dqs_of_texts ks k2] <;> rfl
theorem dq_texts {K : PySem.W.Frag} {S : Hp} : ∀ ks : List Str, DqAll K S (ks.map V.str) (ks.map PyData.str)
  | [] => .nil
  | k :: ks => .cons (.str k) (dq_texts ks)
def wLenSet (we : W1) : W1 := fun ρ P => we ρ fun d ρ1 => ∃ (b : Bool) (ks : List Str), d = seqOf b (ks.map PyData.str) ∧ ks.length < 4096 ∧ ∀ L : List Str, L.Nodup → (∀ x, x ∈ L ↔ x ∈ ks) → P (.int (L.length : Nat)) ρ1
def wSortedS (we : W1) : WA := fun ρ P => we ρ fun d ρ1 => ∃ (b : Bool) (ks : List Str), d = seqOf b (ks.map PyData.str) ∧ ks.length < 4096 ∧ ∀ ys : List Str, ys.Pairwise StrLt → (∀ x, x ∈ ys ↔ x ∈ ks) → P (ys.map PyData.str) ρ1
theorem seq_texts {K : PySem.W.Frag} {S H : Hp} {b : Bool} {ks : List Str} {v : V} (sm : Same S H) (h : Dq K S v (seqOf b (ks.map PyData.str))) : ∃ l, v = .ref l ∧ (SqL K H l (ks.map V.str) ∨ SqT K H l (ks.map V.str)) := by
  cases b with
  | false =>
    cases h with
    | lst sq hd => exact ⟨_, rfl, .inl (by rw [← dqs_of_texts ks hd]; exact same_sqL sm sq)⟩
  | true =>
    cases h with
    | tup sq hd => exact ⟨_, rfl, .inr (by rw [← dqs_of_texts ks hd]; exact same_sqT sm sq)⟩
variable {e : Expr} {te : TE} {we : W1} {p1 p2 q1 q2 : Pos}
theorem ev_lenSet (hc : X.calm = true) (hml : X.mg "len" = none) (hmt : X.mg "set" = none) (ha : EV X e te we) (hgl : Gl X "len" := by rfl) (hgt : Gl X "set" := by rfl)
    (he : starEach [e] X.env = (false, eval e X.env) :: starEach [] X.env := by rfl) (hpl : (backTo q2 (starEach [] X.env)).any (·.1) = false := by rfl)
    (he2 : starEach [(.Call (.Name "set" p2) [e] [] q2)] X.env = (false, eval (.Call (.Name "set" p2) [e] [] q2) X.env) :: starEach [] X.env := by rfl) (hpl2 : (backTo q1 (starEach [] X.env)).any (·.1) = false := by rfl) :
    EV X (.Call (.Name "len" p1) [.Call (.Name "set" p2) [e] [] q2] [] q1) (tCB (rLenS X.w) (tCons (tCB (rSetS X.K X.w) (tCons te tNil)) tNil)) (wLenSet we) :=
  ⟨pe_callB call_rLenS hgl hml PySem.boot_len (pa_cons (pe_callTy (call_rSetS hc) hgt hmt (by decide +kernel) (pa_cons ha.pe pa_nil he) (by decide) (by decide) he hpl) pa_nil he2) (by decide) (by decide) he2 hpl2, fun F ρ P σ S H Q hw R q =>
    ha.sd F ρ _ σ S H _ hw R fun d ρ1 v S1 H1 h1 R1 s1 d1 => by
      obtain ⟨b, ks, rfl, few, g⟩ := h1
      obtain ⟨l, rfl, sq⟩ := seq_texts R1.sub d1
      refine ⟨l, ks, rfl, sq, few, fun a L na one same => ?_⟩
      exact ⟨a, L, rfl, upd_same, q _ ρ1 _ S1 _ (g L one same) (R1.lay na _) s1 (.int _)⟩⟩
theorem en_sortedS (hu : X.A.units + 100 < cLine) (hc : X.calm = true) (hms : X.mg "sorted" = none) (hmt : X.mg "set" = none) (ha : EV X e te we) (hgs : Gl X "sorted" := by rfl) (hgt : Gl X "set" := by rfl)
    (he : starEach [e] X.env = (false, eval e X.env) :: starEach [] X.env := by rfl) (hpl : (backTo q2 (starEach [] X.env)).any (·.1) = false := by rfl)
    (he2 : starEach [(.Call (.Name "set" p2) [e] [] q2)] X.env = (false, eval (.Call (.Name "set" p2) [e] [] q2) X.env) :: starEach [] X.env := by rfl) (hpl2 : (backTo q1 (starEach [] X.env)).any (·.1) = false := by rfl) :
    EN X (.Call (.Name "sorted" p1) [.Call (.Name "set" p2) [e] [] q2] [] q1) (tCB (rSortS X.w) (tCons (tCB (rSetS X.K X.w) (tCons te tNil)) tNil)) (wSortedS we) :=
  ⟨pe_callB (call_rSortS hc (by omega)) hgs hms (by decide +kernel) (pa_cons (pe_callTy (call_rSetS hc) hgt hmt (by decide +kernel) (pa_cons ha.pe pa_nil he) (by decide) (by decide) he hpl) pa_nil he2) (by decide) (by decide) he2 hpl2, fun F ρ P σ S H Q hw R q =>
    ha.sd F ρ _ σ S H _ hw R fun d ρ1 v S1 H1 h1 R1 s1 d1 => by
      obtain ⟨b, ks, rfl, few, g⟩ := h1
      obtain ⟨l, rfl, sq⟩ := seq_texts R1.sub d1
      refine ⟨l, ks, rfl, sq, few, fun a L na one same => ?_⟩
      refine ⟨a, L, rfl, upd_same, fun ys p pm pw hn => ?_⟩
      have np : H1 p = none := by
        cases z : H1 p with
        | none => rfl
        | some o =>
          rw [same_new (o := SetSO X.w a L) na p o z] at hn
          cases hn
      have R2 := R1.lay na (SetSO X.w a L)
      exact q _ ρ1 p _ S1 _ (g ys pw fun x => pm.mem_iff.trans (same x)) (R2.lay hn _) s1 (R2.bare hn) (dq_texts ys)⟩
end
/-! ### how many different ones -/
theorem nodup_len {α : Type} [DecidableEq α] : ∀ (l D : List α), l.Nodup → (∀ x ∈ l, x ∈ D) → l.length ≤ D.length
  | [], _, _, _ => Nat.zero_le _
  | x :: l, D, hn, hs => by
    obtain ⟨h1, h2⟩ := List.nodup_cons.mp hn
    have hx : x ∈ D := hs x (.head _)
    have ih := nodup_len l (D.erase x) h2 fun y hy => by
      have ne : y ≠ x := fun e => h1 (by rw [← e]; exact hy)
      exact (List.mem_erase_of_ne ne).2 (hs y (.tail _ hy))
    have e := List.length_erase_of_mem hx
    have hp : 0 < D.length := List.length_pos_of_mem hx
    rw [List.length_cons]
    omega
theorem all_differ_iff {α : Type} [DecidableEq α] {L : List α} (one : L.Nodup) : ∀ {ks : List α}, (∀ x, x ∈ L ↔ x ∈ ks) → (L.length = ks.length ↔ ks.Nodup) := fun {ks} same => by
  constructor
  · intro h
    refine Classical.byContradiction fun hd => ?_
    have cut : ∀ ks : List α, ¬ ks.Nodup → ∃ ks' : List α, ks'.length < ks.length ∧ ∀ x ∈ ks, x ∈ ks' := fun ks => by
      induction ks with
      | nil => exact fun h => absurd List.nodup_nil h
      | cons k ks ih =>
        intro h
        by_cases hk : k ∈ ks
        · refine ⟨ks, by rw [List.length_cons]; omega, fun x hx => ?_⟩
          rcases List.mem_cons.mp hx with rfl | hx
          · exact hk
          · exact hx
        · obtain ⟨ks', h1, h2⟩ := ih fun z => h (List.nodup_cons.mpr ⟨hk, z⟩)
          refine ⟨k :: ks', by rw [List.length_cons, List.length_cons]; omega, fun x hx => ?_⟩
          rcases List.mem_cons.mp hx with rfl | hx
          · exact .head _
          · exact .tail _ (h2 x hx)
    obtain ⟨ks', h1, h2⟩ := cut ks hd
    have := nodup_len L ks' one fun x hx => h2 x ((same x).mp hx)
    omega
  · intro h
    have h1 := nodup_len L ks one fun x hx => (same x).mp hx
    have h2 := nodup_len ks L h fun x hx => (same x).mpr hx
    omega
end Tr
set_option Elab.async false
set_option linter.all false
set_option maxRecDepth 100000
set_option maxHeartbeats 2000000
/-! TrL: sorted(xs, key=lambda x: (x != y, x)), y a name of the def around it -/
namespace Tr
open PySem PySem.Spec PyProof.Rows L2
variable [Tabbed]
theorem lam_run {prog : Program} {w : World} {A : Around} {s : Shared} {f c' cw : Addr} {qual x y xS yS : Str} {tx ty : PySem.Tok} {params : Arguments} {scope : Scope} {cl : List (Str × Addr)} {pm ctv : Value} {p1 p2 p3 p4 p5 : Pos} {k1 : Nat} {R : Result → Shared → Prop}
    (hroom : A.depth < recursionLimit) (hf : s.heap.get? f = some (PySem.W.kla_obj "<lambda>" qual params (.Tuple [.Compare (.Name x p1) [.NotEq] [.Name y p2] p3, .Name x p4] k1 p5) scope cl pm c' ctv))
    (hc : s.heap.CodeRec (.ref c') qual) (hlim : s.heap.NoLimit) (hcl : cl.lookup y = some cw) (hcw : s.heap.IsCell cw (some (.str yS ty)))
    (hbind : bindArgs (PySem.W.kla_fn "<lambda>" qual params (.Tuple [.Compare (.Name x p1) [.NotEq] [.Name y p2] p3, .Name x p4] k1 p5) scope cl pm (.ref c') ctv) ⟨[.str xS tx], []⟩ = pure [(x, .str xS tx)])
    (hkind : scope.kind = .function) (hco : scope.isCoroutine = false) (hge : scope.isGenerator = false) (hnc : ∀ z ∈ scope.names, z.2 ≠ .cell) (hx : scope.names.lookup x = some .local) (hy : scope.names.lookup y = some .free)
    (hdx : (x == ("__debug__" : Str)) = false) (hdy : (y == ("__debug__" : Str)) = false) (hcy : (y == ("__classdict__" : Str)) = false)
    (hq : ∀ h' tk p, (∀ b o, s.heap.get? b = some o → h'.get? b = some o) → Reads h' (.ref p) (.tuple [.bool (xS != yS), .str xS]) [] → R (.ok (.ret (.ref p))) { s with heap := h', toks := tk }) :
    codeAny (model prog w) A (.call (.ref f) ⟨[.str xS tx], []⟩) R s := by
  refine PySem.W.kla_callFunE hroom hf rfl hco hge rfl hc ?_
  rw [hbind]
  refine wpAny_pure ?_
  refine wpAny_newFunctionEnv hnc (fun z hz => ?_) (fun h' ns same => ⟨?_, PySem.W.kla_codeExpr ?_⟩) hkind
  · rw [List.mem_singleton.mp hz]
    exact hx
  · exact hlim.keeps fun b o e => (same.2 b (Nat.ne_of_lt (Heap.lt_size e))).trans (Heap.get?_push_of_some _ e)
  · have old : ∀ b o, s.heap.get? b = some o → h'.get? b = some o := fun b o e => (same.2 b (Nat.ne_of_lt (Heap.lt_size e))).trans (Heap.get?_push_of_some _ e)
    obtain ⟨ocw, hcw1, hcw2⟩ := hcw
    generalize hEnv : newEnv _ _ _ _ _ _ _ _ _ = env
    have h1 : env.scope = scope := by rw [← hEnv] <;> rfl
    have h2 : env.locals = s.heap.objs.size := by rw [← hEnv] <;> rfl
    have h3 : env.cells = cl := by rw [← hEnv] <;> rfl
    have kx : env.kindOf x = some .local := by
      show env.scope.names.lookup x = _
      rw [h1]
      exact hx
    have ky : env.kindOf y = some .free := by
      show env.scope.names.lookup y = _
      rw [h1]
      exact hy
    have hk : env.scope.kind = .function := by rw [h1]; exact hkind
    have ldx : ∀ {A : Around} {E : Value → Shared → Prop} {Q : Value → Shared → Prop} {p : Pos} {tk : Nat}, Q (.str xS tx) { s with heap := h', toks := tk } → wpAny (model prog w) A (eval (.Name x p) env) Q E { s with heap := h', toks := tk } := fun {A E Q p tk} q =>
      wpAny_Name (wpAny_loadName_local hk kx (by rw [h2]; exact ns) (by show List.lookup x [(x, Value.str xS tx)] = _; simp [List.lookup]) q) hdx
    have ldy : ∀ {A : Around} {E : Value → Shared → Prop} {Q : Value → Shared → Prop} {p : Pos} {tk : Nat}, Q (.str yS ty) { s with heap := h', toks := tk } → wpAny (model prog w) A (eval (.Name y p) env) Q E { s with heap := h', toks := tk } := fun {A E Q p tk} q =>
      wpAny_Name (wpAny_loadName_free hk ky (by rw [h3]; exact hcl) ⟨ocw, old _ _ hcw1, hcw2⟩ q hcy) hdy
    refine wpAny_Tuple (spliced_more (wpAny_Compare1 (ldx (ldy (PyProof.Rows.ne_str (spliced_more (ldx (spliced_none ⟨by show 2 ≤ sizeLine; rw [sizeLine_eq]; omega, ?_⟩)) ?_)))) ?_) ?_)
    · refine hq _ _ _ (fun b o e => Heap.get?_push_of_some _ (old b o e)) (.tuple (Heap.get?_push_at rfl rfl) rfl rfl ?_)
      exact .cons (.bool _) (.cons (.str _ _) .nil)
    · rfl
    · rfl
    · rfl

/-- the lambda is made: the table may have grown, all else stands -/
theorem lam_made {X : Cx} {pins : List (Addr × Obj)} {σ : L2.St} {H : Hp} {s : Shared} {c P : Addr} {nm : Nat → Nat → Str} {params : Arguments} {body : Expr} {scope : Scope} {lpos : Pos} {E Q : Value → Shared → Prop}
    (I : L2.Inv X pins σ H s) (TB : LamX.TabB X.base X.mg c P) (hcode : X.env.code = .ref c) (hT : (P, nm) ∈ Tabbed.T) (hn : nm lpos.line lpos.col = X.env.qual ++ "<lambda>") (hu : ∀ p ∈ Tabbed.T, p.1 = P → p.2 = nm) (tk : CodeTabs H)
    (hdef : defaultsOf params X.env = ([], [])) (hfree : ∀ y ∈ scope.names, y.2 = .free → ∃ c, X.env.cells.lookup y.1 = some c)
    (q : ∀ (f c' : Addr) (pm ctv : Value) (H1 : Hp) (s' : Shared), L2.Inv X pins σ H1 s' → Left H H1 → s'.heap.get? f = some (PySem.W.kla_obj "<lambda>" (X.env.qual ++ "<lambda>") params body scope (cloFrom X.env.cells scope.names []) pm c' ctv) →
      s'.heap.CodeRec (.ref c') (X.env.qual ++ "<lambda>") → Q (.ref f) s') :
    wpAny (model X.prog X.w) X.A (eval (.Lambda params body scope lpos) X.env) Q E s := by
  obtain ⟨ps, hP, tri, all⟩ := tk _ hT
  have hPo : s.heap.get? P = some (PySem.W.tabObj ps) := I.hok P _ hP
  have bk := I.bk
  have CH : PySem.W.CodeHd s.heap c P := by
    obtain ⟨o, vs, file, tf, fl, tg, inF, text, tt, e, r⟩ := TB.code
    exact ⟨o, vs, file, tf, fl, tg, inF, text, tt, bk _ _ e, r⟩
  have ns := I.ok.mod.glob.keeps bk
  have hcl := closure_ok (scope := scope) (env := X.env) hfree
  refine PySem.W.kla_eval hdef ?_
  cases hc : codeAmong lpos ps.toList with
  | none =>
    refine PySem.W.kla_makeFunction hcl I.ok.glob ns hcode CH hPo tri hc TB.gP (TB.bm.keeps bk) fun c' ctv h' tk' ext le lt cr hP' => ?_
    have hc'n : H c' = none := I.hok.fresh le
    have hcP : c' ≠ P := fun z => by
      rw [z, hP] at hc'n
      cases hc'n
    obtain ⟨c2, oc, vs, t, e1, e2, e3, e4⟩ := cr
    cases e1
    have I1 := LamX.inv_table (more := #[rawInt ↑lpos.line, rawInt ↑lpos.col, Value.ref c']) (t' := tk') I hP ext hP' le ⟨oc, vs, t, e2, e3, e4⟩
    have I2 := I1.kept (h' := h'.push (PySem.W.kla_obj "<lambda>" (X.env.qual ++ "<lambda>") params body scope (cloFrom X.env.cells scope.names []) ((X.mg "__name__").getD .none) c' ctv)) (t' := tk') fun b o e => Heap.get?_push_of_some _ e
    refine q _ c' _ ctv _ _ I2 ⟨fun b o nt e => ?_, fun p hp => ?_⟩ (Heap.get?_push_at rfl rfl) ⟨c', oc, vs, t, rfl, Heap.get?_push_of_some _ e2, e3, e4⟩
    · have hb : b ≠ P := fun z => nt ⟨_, hT, z.symm⟩
      rw [upd_ne (ne_of_none e hc'n), upd_ne hb]
      exact e
    · have kc : ∀ {d : Addr} {qn : Str}, H d = some (LamX.CodeO d qn) → (upd (upd H P (.tbl (ps ++ #[rawInt ↑lpos.line, rawInt ↑lpos.col, Value.ref c']))) c' (LamX.CodeO c' (X.env.qual ++ "<lambda>"))) d = some (LamX.CodeO d qn) := fun {d qn} e => by
        have hd : d ≠ P := fun z => by
          rw [z, hP] at e
          cases e
        rw [upd_ne (ne_of_none e hc'n), upd_ne hd]
        exact e
      by_cases hpP : p.1 = P
      · have hpn := hu p hp hpP
        refine ⟨ps ++ #[rawInt ↑lpos.line, rawInt ↑lpos.col, Value.ref c'], ?_, ?_, fun pos cv ha => ?_⟩
        · rw [hpP, upd_ne (Ne.symm hcP), upd_same]
        · rw [Array.toList_append]
          exact TriplesOk_snoc _ _ _ _ tri
        · rw [Array.toList_append] at ha
          rcases NdefX.among_app2 ps.toList tri ha with ha | ⟨rfl, g1, g2⟩
          · obtain ⟨d, rfl, hd⟩ := all pos cv ha
            rw [hpn]
            exact ⟨d, rfl, kc hd⟩
          · refine ⟨c', rfl, ?_⟩
            rw [hpn, ← g1, ← g2, hn]
            exact upd_same
      · obtain ⟨ps2, k1, k2, k3⟩ := tk p hp
        refine ⟨ps2, ?_, k2, fun pos cv ha => ?_⟩
        · rw [upd_ne (ne_of_none k1 hc'n), upd_ne hpP]
          exact k1
        · obtain ⟨d, rfl, hd⟩ := k3 pos cv ha
          exact ⟨d, rfl, kc hd⟩
  | some cv =>
    obtain ⟨c', rfl, hc'⟩ := all lpos cv hc
    obtain ⟨oc, vs, t, e2, e3, e4⟩ := (I.hok c' _ hc').1
    replace e4 : vs[1]? = some (.str (nm lpos.line lpos.col) t) := e4
    rw [hn] at e4
    refine PySem.W.kla_makeFunctionHit hcl I.ok.glob ns hcode CH hPo tri hc (TB.bm.keeps bk) fun ctv h' tk' keep le => ?_
    have I2 := I.kept (h' := h'.push (PySem.W.kla_obj "<lambda>" (X.env.qual ++ "<lambda>") params body scope (cloFrom X.env.cells scope.names []) ((X.mg "__name__").getD .none) c' ctv)) (t' := tk') fun b o e => Heap.get?_push_of_some _ (keep b o e)
    exact q _ c' _ ctv H _ I2 ⟨fun b o nt e => e, tk⟩ (Heap.get?_push_at rfl rfl) ⟨c', oc, vs, t, rfl, Heap.get?_push_of_some _ (keep _ _ e2), e3, e4⟩

/-- the order of the lambda's keys -/
def lamKey (yS x : Str) : PyData := .tuple [.bool (x != yS), .str x]
def srtBy (yS : Str) (xs : List Str) : List Str := xs.mergeSort (PySem.W.dataLe false (lamKey yS))
def tSortLam (K : PySem.W.Frag) (i : Nat) (t : TA) : TE := fun σ H Q => t σ H fun vs H1 => ∃ (l : Addr) (xs : List Str) (yS : Str), vs = [.ref l] ∧ SqL K H1 l (xs.map V.str) ∧ xs.length < 4000 ∧ σ[i]? = some (some (.str yS)) ∧ CodeTabs H1 ∧
  ∀ H2 p, Left H1 H2 → H2 p = none → Q (.ref p) (upd H2 p (.lst ((srtBy yS xs).map V.str)))
theorem each_of_strs : ∀ {xs : List Str} {us : List Value}, Vals (xs.map V.str) us → PySem.W.EachIs (fun v x => ∃ t, v = Value.str x t) us xs
  | [], _, h => by cases h; exact .nil
  | x :: xs, _, h => by
    cases h with
    | cons h1 h2 => exact .cons h1 (each_of_strs h2)
theorem Left.sqL {K : PySem.W.Frag} {H H' : Hp} {a : Addr} {xs : List V} (lf : Left H H') (tk : CodeTabs H) (h : SqL K H a xs) : SqL K H' a xs := by
  have nt : ∀ {o : HO}, H a = some o → (∀ ps, o ≠ .tbl ps) → ¬ Tb a := fun {o} e no hb => by
    obtain ⟨ps, z⟩ := tk.tbl hb
    rw [e] at z
    exact no ps (Option.some.inj z)
  rcases h with (h | ⟨o, h⟩) | h
  · exact .inl (.inl (lf.at_ a _ (nt h fun ps z => by cases z) h))
  · exact .inl (.inr ⟨o, lf.at_ a _ (nt h fun ps z => by cases z) h⟩)
  · exact .inr h
theorem strs_of_each {xs : List Str} {us : List Value} (h : PySem.W.EachIs (fun v x => ∃ t, v = Value.str x t) us xs) : Vals (xs.map V.str) us := by
  induction h with
  | nil => exact .nil
  | cons h _ ih => exact .cons h ih
theorem pe_sortlam {X : Cx} {i : Nat} {e : Expr} {t : TA} {c P : Addr} {nm : Nat → Nat → Str} {params : Arguments} {scope : Scope} {x y : Str} {p0 p1 p2 p3 p4 p5 lpos kp pos : Pos} {k1 : Nat}
    (hu : X.A.units + 100 < cLine) (hd : X.A.depth < recursionLimit) (hms : X.mg "sorted" = none) (TB : LamX.TabB X.base X.mg c P) (hcode : X.env.code = .ref c) (hT : (P, nm) ∈ Tabbed.T) (hn : nm lpos.line lpos.col = X.env.qual ++ "<lambda>") (hun : ∀ p ∈ Tabbed.T, p.1 = P → p.2 = nm)
    (ha : PA X [e] t) (hi : X.N[i]? = some y) (hy : X.env.scope.names.lookup y = some .cell) (hvy : Vis X.env.scope y)
    (hdef : defaultsOf params X.env = ([], [])) (hfree : ∀ z ∈ scope.names, z.2 = .free → z.1 = y) (hyf : (y, NameKind.free) ∈ scope.names)
    (hbind : ∀ (q : Str) (cl : List (Str × Addr)) (pm cdv ctv v : Value), bindArgs (PySem.W.kla_fn "<lambda>" q params (.Tuple [.Compare (.Name x p1) [.NotEq] [.Name y p2] p3, .Name x p4] k1 p5) scope cl pm cdv ctv) ⟨[v], []⟩ = pure [(x, v)])
    (hkind : scope.kind = .function) (hco : scope.isCoroutine = false) (hge : scope.isGenerator = false) (hnc : ∀ z ∈ scope.names, z.2 ≠ .cell) (hxl : scope.names.lookup x = some .local) (hyl : scope.names.lookup y = some .free)
    (hdx : (x == ("__debug__" : Str)) = false) (hdy : (y == ("__debug__" : Str)) = false) (hcy : (y == ("__classdict__" : Str)) = false)
    (hg : Gl X "sorted" := by rfl) (he : backTo pos (starEach [e] X.env) = (false, eval e X.env) :: backTo pos (starEach [] X.env) := by rfl) (hpl : ((backTo pos (starEach [e] X.env)).any fun x => x.1) = false := by rfl) :
    PE X (.Call (.Name "sorted" p0) [e] [⟨some "key", .Lambda params (.Tuple [.Compare (.Name x p1) [.NotEq] [.Name y p2] p3, .Name x p4] k1 p5) scope lpos, kp⟩] pos) (tSortLam X.K i t) := by
  refine ⟨fun pins s σ H Q I h => wpAny_Call_Name_kw (ld_blt (u := .builtin "sorted") I hg hms (by decide +kernel) ?_)⟩
  refine callWith_kw (thn (ha.run pos pins s σ H _ I h) ?_) he hpl rfl rfl
  rintro us s1 ⟨vs, H1, I1, rv, l, xs, yS, rfl, sq, hlen, hy1, tk, q⟩
  refine kwAll_cons ?_
  have hfr : ∀ z ∈ scope.names, z.2 = .free → ∃ c, X.env.cells.lookup z.1 = some c := fun z hz hk => by
    rw [hfree z hz hk]
    exact I.ok.has y (.inl hy)
  refine lam_made I1 TB hcode hT hn hun tk hdef hfr fun f c' pm ctv H2 s2 I2 lf hf hcr => ?_
  refine kwAll_nil ?_
  have sq2 : SqL X.K H2 l (xs.map V.str) := lf.sqL tk sq
  obtain ⟨its, hv, hpl2, hz⟩ := I2.list sq2
  obtain ⟨cw, hcw⟩ := I2.ok.has y (.inl hy)
  obtain ⟨m, hm, look⟩ := I2.loc
  obtain ⟨u, hru, hlk⟩ := look i y _ hi hy1 hvy
  obtain ⟨ty, rfl⟩ : ∃ ty, u = Value.str yS ty := hru
  have hcell : s2.heap.IsCell cw (some (.str yS ty)) := by
    rcases hlk with ⟨k, _⟩ | ⟨_, c2, e1, e2⟩
    · have k' : X.env.scope.names.lookup y = some .local := k
      rw [hy] at k'
      cases k'
    · rw [hcw] at e1
      cases e1
      exact e2
  have hclo := NdefX.clo_has hfr hyf hcw
  cases rv with
  | cons rv1 rv2 =>
    cases rv2
    have rv1' : _ = Value.ref l := rv1
    subst rv1'
    show wpAny _ _ (call (.builtin "sorted") [.ref l] [("key", .ref f)]) _ _ _
    refine PySem.W.sorted_key_data (b := false) (lamKey yS) (vs := its) (bs := xs) (R := fun v x => ∃ t, v = Value.str x t) (f := .ref f) ?_ (each_of_strs hv) ?_ ?_ ?_ ?_ ?_ ?_ ?_ ?_ ?_
    · obtain ⟨o, n, g1, g2, _, g4⟩ := hpl2
      exact ⟨o, g1, g2, n, g4⟩
    · intro d hd d' hd'
      obtain ⟨a, _, rfl⟩ := List.mem_map.mp hd
      obtain ⟨b, _, rfl⟩ := List.mem_map.mp hd'
      simp [lamKey, PySem.W.alike, PySem.W.alikeAll]
    · refine .inl fun d hd => ?_
      obtain ⟨a, _, rfl⟩ := List.mem_map.mp hd
      exact ⟨_, _, rfl⟩
    · rw [sizeLine_eq]
      omega
    · intro a _
      have : (lamKey yS a).depth = 1 := by
        show max 0 (max 0 0) + 1 = 1
        rfl
      rw [this]
      omega
    · rfl
    · intro _
      rfl
    · intro _
      rfl
    · rintro v a ⟨tv, rfl⟩ ha2 h tk2 keep
      refine wpAny_call ?_
      refine lam_run (s := { heap := h, gens := s2.gens, drawn := s2.drawn, toks := tk2, os := s2.os }) (cw := cw) (yS := yS) (ty := ty) ?_ (keep _ _ hf) ?_ ?_ hclo ?_ (hbind _ _ _ _ _ _) hkind hco hge hnc hxl hyl hdx hdy hcy fun h' tk' p kp rd => ?_
      · exact hd
      · obtain ⟨c2, oc, vs2, t2, e1, e2, e3, e4⟩ := hcr
        exact ⟨c2, oc, vs2, t2, e1, keep _ _ e2, e3, e4⟩
      · exact I2.nolimit.keeps keep
      · obtain ⟨oc, e1, e2⟩ := hcell
        exact ⟨oc, keep _ _ e1, e2⟩
      · exact ⟨h', tk', rfl, kp, rd⟩
    · intro out cc h' tk' keep none_ at_ hlen2 eo
      have hn2 : H2 (s2.heap.objs.size + 1) = none := I2.hok.fresh (Nat.le_succ _)
      refine ⟨.ref (s2.heap.objs.size + 1), upd H2 (s2.heap.objs.size + 1) (.lst ((srtBy yS xs).map V.str)), I2.laid (t' := tk') keep (Nat.le_succ _) ?_, rfl, q H2 _ lf hn2⟩
      refine ⟨?_, out, cc, strs_of_each eo, at_⟩
      rw [List.length_map, srtBy, List.length_mergeSort, sizeLine_eq]
      omega

def wSortLam (i : Nat) (wa : W1) : WA := fun ρ P => wa ρ fun d ρ1 => ∃ (xs : List Str) (yS : Str), d = .list (xs.map .str) ∧ xs.length < 4000 ∧ ρ1[i]? = some (.val (.str yS)) ∧ P ((srtBy yS xs).map .str) ρ1
theorem dq_strs {K : PySem.W.Frag} {S : Hp} : ∀ ys : List Str, DqAll K S (ys.map V.str) (ys.map PyData.str)
  | [] => .nil
  | y :: ys => .cons (.str y) (dq_strs ys)
theorem en_sortLam {X : Cx} (i : Nat) {e : Expr} {t1 : TE} {wa : W1} {c P : Addr} {nm : Nat → Nat → Str} {params : Arguments} {scope : Scope} {x y : Str} {p0 p1 p2 p3 p4 p5 lpos kp pos : Pos} {k1 : Nat}
    (hr : Room 0 X.A) (hms : X.mg "sorted" = none) (TB : LamX.TabB X.base X.mg c P) (hcode : X.env.code = .ref c) (hT : (P, nm) ∈ Tabbed.T) (hn : nm lpos.line lpos.col = X.env.qual ++ "<lambda>") (hun : ∀ p ∈ Tabbed.T, p.1 = P → p.2 = nm)
    (ha : EV X e t1 wa) (hi : X.N[i]? = some y := by rfl) (hy : X.env.scope.names.lookup y = some .cell := by rfl)
    (hdef : defaultsOf params X.env = ([], []) := by rfl) (hfree : ∀ z ∈ scope.names, z.2 = .free → z.1 = y := by decide +kernel) (hyf : (y, NameKind.free) ∈ scope.names := by decide +kernel)
    (hbind : ∀ (q : Str) (cl : List (Str × Addr)) (pm cdv ctv v : Value), bindArgs (PySem.W.kla_fn "<lambda>" q params (.Tuple [.Compare (.Name x p1) [.NotEq] [.Name y p2] p3, .Name x p4] k1 p5) scope cl pm cdv ctv) ⟨[v], []⟩ = pure [(x, v)] := by intro _ _ _ _ _ _; rfl)
    (hkind : scope.kind = .function := by rfl) (hco : scope.isCoroutine = false := by rfl) (hge : scope.isGenerator = false := by rfl) (hnc : ∀ z ∈ scope.names, z.2 ≠ .cell := by decide +kernel) (hxl : scope.names.lookup x = some .local := by rfl) (hyl : scope.names.lookup y = some .free := by rfl)
    (hdx : (x == ("__debug__" : Str)) = false := by decide) (hdy : (y == ("__debug__" : Str)) = false := by decide) (hcy : (y == ("__classdict__" : Str)) = false := by decide)
    (hg : Gl X "sorted" := by rfl) (hse : starEach [e] X.env = (false, eval e X.env) :: starEach [] X.env := by rfl) (he : backTo pos (starEach [e] X.env) = (false, eval e X.env) :: backTo pos (starEach [] X.env) := by rfl) (hpl : ((backTo pos (starEach [e] X.env)).any fun x => x.1) = false := by rfl) :
    EN X (.Call (.Name "sorted" p0) [e] [⟨some "key", .Lambda params (.Tuple [.Compare (.Name x p1) [.NotEq] [.Name y p2] p3, .Name x p4] k1 p5) scope lpos, kp⟩] pos) (tSortLam X.K i (tCons t1 tNil)) (wSortLam i wa) :=
  ⟨pe_sortlam (by have := hr.un; omega) (by have := hr.dp; omega) hms TB hcode hT hn hun (pa_cons ha.pe pa_nil hse) hi hy (.inr (.inl hy)) hdef hfree hyf hbind hkind hco hge hnc hxl hyl hdx hdy hcy hg he hpl, fun F ρ P σ S H Q hw R q =>
    ha.sd F ρ _ σ S H _ hw R fun d ρ1 v S1 H1 h1 R1 s1 d1 => by
      obtain ⟨xs, yS, rfl, hl, hy1, hp⟩ := h1
      cases d1 with
      | lst sq da =>
        obtain ⟨w, g1, g2⟩ := R1.at_ i _ hy1
        cases g2
        refine ⟨_, xs, yS, rfl, ?_, hl, g1, R1.tok, fun H2 p lf hn2 => ?_⟩
        · rw [← dqs_of_texts xs da]
          exact same_sqL R1.sub sq
        · have R2 := R1.left lf
          exact q _ ρ1 p _ S1 _ hp (R2.lay hn2 _) s1 (R2.bare hn2) (dq_strs _)⟩

/-! ### a list or a tuple as a test -/
def tTru (K : PySem.W.Frag) (t : TE) : TT := fun σ H Q => t σ H fun x H' => ∃ k, TruV K x H' k ∧ Q k H'
def wTru (w : W1) : WT := fun ρ P => w ρ fun d ρ' => ∃ b ds, d = seqOf b ds ∧ P (!ds.isEmpty) ρ'
theorem isEmpty_len {α β : Type} {xs : List α} {ys : List β} (h : xs.length = ys.length) : xs.isEmpty = ys.isEmpty := by
  cases xs <;> cases ys <;> first | rfl | cases h
theorem et_tru {X : Cx} {e : Expr} {t : TE} {w : W1} (h : EV X e t w) (he : ∀ whole, isTrue e X.env whole = (do let v ← whole; standAt e.pos; holding [v] (truthy v)) := by intro _; rfl) : ET X e (tTru X.K t) (wTru w) :=
  ⟨pt_truth h.pe he, fun F ρ P σ S H Q hw R q => h.sd F ρ _ σ S H _ hw R fun d ρ' v S' H' hp R' sm hd => by
    obtain ⟨b, ds, rfl, hp⟩ := hp
    cases b with
    | false =>
      cases hd with
      | lst sq da => exact ⟨_, .inl ⟨_, same_sqL R'.sub sq, by rw [isEmpty_len da.len]⟩, q _ _ _ _ hp R' sm⟩
    | true =>
      cases hd with
      | tup sq da => exact ⟨_, .inr (.inl ⟨_, same_sqT R'.sub sq, by rw [isEmpty_len da.len]⟩), q _ _ _ _ hp R' sm⟩⟩

/-! ### a def whose code object is told -/
section
variable {P : Program} {w : World} {K : PySem.W.Frag} {mg : Str → Option Value} {base : Heap}
theorem Fun.okC {x qual : Str} {st : Stmt} {f : Addr} {fd : FuncData} {N ps : List Str} {k : Nat} {sp : Sp} (Fn : Fun K x qual st f fd) (Sc : FnScope N ps (defScope st)) (len : ∀ vs H Q E, sp vs H Q E → vs.length = ps.length)
    (hbody : ∀ (cdv : Value) (A : Around) (outer : List Env) (s : Shared) (H : Hp) (vs : List V) (Q : VK) (E : XK), cdv = fd.code → Room k (A.deeper (envOfC qual (defScope st) s.heap.objs.size f cdv)) → sp vs H Q E →
      ∃ t, PSs (cxOf (L2.CX P w) P w K mg base N qual (defScope st) f cdv A outer s H E) (defBody st) t ∧ t { nx := fun _ H' => Q .non H', rt := Q } (L2.start N vs) H) : FnOk P w K mg base (L2.CX P w) (k + 1) f fd ps sp := by
  obtain ⟨oc, od, kV, doc, pm, an, cdv, ct, osl, rfl, lk, hcd⟩ := Fn.ex
  exact fn_of lk hcd Sc len fun A outer s H vs Q E hr hsp => hbody cdv A outer s H vs Q E rfl hr hsp
theorem fn_pureC {x qual : Str} {st : Stmt} {f : Addr} {fd : FuncData} {N ps : List Str} {k n : Nat} {T : TSp} (Fn : Fun K x qual st f fd) (Sc : FnScope N ps (defScope st)) (hn : ps.length = n)
    (hbody : ∀ (cdv : Value) (A : Around) (outer : List Env) (s : Shared) (H : Hp) (E : XK), cdv = fd.code → Room k (A.deeper (envOfC qual (defScope st) s.heap.objs.size f cdv)) →
      ∃ t wt, SVs (cxOf (L2.CX P w) P w K mg base N qual (defScope st) f cdv A outer s H E).nox (defBody st) t wt ∧ ∀ ds P', ds.length = n → T ds P' → wt (startE N ds) { nx := fun _ => P' .none, rt := fun d _ => P' d }) :
    FnOk P w K mg base (L2.CX P w) (k + 1) f fd ps (spV K n T) := by
  refine Fun.okC Fn Sc (fun vs H Q E h => (spV_len vs H Q E h).trans hn.symm) fun cdv A outer s H vs Q E hcd hr hsp => ?_
  obtain ⟨t, wt, hb, hw⟩ := hbody cdv A outer s H E hcd hr
  refine ⟨t, hb.ps.nox, ?_⟩
  obtain ⟨S, ds, P', sm, fo, hd, hl, hT, q⟩ := hsp
  have R := rep_start N sm fo hd
  refine hb.sd _ _ _ _ S H _ (hw ds P' hl hT) R ⟨fun ρ' σ' S' H' h R' s' => ?_, fun d ρ' v σ' S' H' h R' s' hd' => ?_, fun _ _ _ _ h _ _ => h.elim, fun _ _ _ _ h _ _ => h.elim, fun _ _ _ _ _ _ _ h _ _ _ _ => h.elim⟩
  · exact q .none .non S' H' h s' R'.sub (fun b h1 h2 => R'.fresh b h1 h2) ⟨fun b o nt e => R'.keep b o e nt, R'.tok⟩ .non
  · exact q d v S' H' h s' R'.sub (fun b h1 h2 => R'.fresh b h1 h2) ⟨fun b o nt e => R'.keep b o e nt, R'.tok⟩ hd'
end
theorem Left.of {H H' : Hp} (k : ∀ b o, H b = some o → H' b = some o) (t : CodeTabs H) : Left H H' := ⟨fun b o _ e => k b o e, t.same k⟩
theorem Left.trans {H H' H'' : Hp} (l : Left H H') (l2 : Left H' H'') : Left H H'' := ⟨fun b o n e => l2.at_ b o n (l.at_ b o n e), l2.tok⟩
/-! ### the first of the sorted ones -/
theorem srt_mem {y : Str} {xs : List Str} {x : Str} : x ∈ srtBy y xs ↔ x ∈ xs := List.mem_mergeSort
theorem srt_nil {y : Str} {xs : List Str} : srtBy y xs = [] ↔ xs = [] := by
  constructor
  · intro h
    have := List.length_mergeSort (le := PySem.W.dataLe false (lamKey y)) xs
    rw [show xs.mergeSort (PySem.W.dataLe false (lamKey y)) = [] from h] at this
    exact List.eq_nil_of_length_eq_zero this.symm
  · rintro rfl
    simp [srtBy]
theorem lt_lam (y a b : Str) : PySem.W.dataLt (lamKey y a) (lamKey y b) = if (a != y) = (b != y) then decide (a.cps.toList < b.cps.toList) else decide (a = y) := by
  show PySem.W.dataLt (.tuple [.bool (a != y), .str a]) (.tuple [.bool (b != y), .str b]) = _
  rw [PySem.W.dataLt_pair rfl rfl]
  by_cases e : (a != y) = (b != y)
  · rw [if_pos (by rw [e]; cases (b != y) <;> rfl), if_pos e, PySem.W.dataLt_str]
    by_cases h : PyData.eqv (.str a) (.str b) = true
    · rw [if_pos h]
      rw [eqv_str, decide_eq_true_eq] at h
      subst h
      exact (decide_eq_false (List.lt_irrefl _)).symm
    · rw [if_neg h]
  · rw [if_neg e]
    by_cases h1 : a = y
    · by_cases h2 : b = y
      · exact absurd (by rw [h1, h2]) e
      · have e1 : (a != y) = false := by simp [h1]
        have e2 : (b != y) = true := by simp [h2]
        rw [e1, e2, decide_eq_true h1]
        rfl
    · by_cases h2 : b = y
      · have e1 : (a != y) = true := by simp [h1]
        have e2 : (b != y) = false := by simp [h2]
        rw [e1, e2, decide_eq_false h1]
        rfl
      · have e1 : (a != y) = true := by simp [h1]
        have e2 : (b != y) = true := by simp [h2]
        exact absurd (e1.trans e2.symm) e
theorem srt_head {y x : Str} {xs : List Str} (h : (srtBy y xs).head? = some x) : x ∈ xs ∧ ∀ z ∈ xs, PySem.W.dataLt (lamKey y z) (lamKey y x) = false := by
  have tl : PySem.W.TotalLe (PySem.W.dataLe false (lamKey y)) := PySem.W.sortLe_total _ _ _
  have pw := PySem.W.sort_pairwise tl xs
  obtain ⟨t, e⟩ : ∃ t, srtBy y xs = x :: t := by
    cases hs : srtBy y xs with
    | nil => rw [hs] at h; cases h
    | cons a t => rw [hs] at h; cases h; exact ⟨t, rfl⟩
  refine ⟨srt_mem.mp (by rw [e]; exact .head _), fun z hz => ?_⟩
  have pw' : (x :: t).Pairwise (fun a b => PySem.W.dataLe false (lamKey y) a b = true) := e ▸ pw
  have hz' : z ∈ x :: t := e ▸ srt_mem.mpr hz
  have key : PySem.W.dataLe false (lamKey y) x z = true := by
    rcases List.mem_cons.mp hz' with rfl | hz'
    · exact tl.refl z
    · exact (List.pairwise_cons.mp pw').1 z hz'
  rw [PySem.W.dataLe_eq] at key
  have key' : (!PySem.W.dataLt (lamKey y z) (lamKey y x)) = true := key
  rw [Bool.not_eq_true'] at key'
  exact key'
/-- ascending texts: the wanted one if it is there, else the first -/
theorem srt_first {y : Str} {xs : List Str} (pw : xs.Pairwise fun a b => a.cps.toList < b.cps.toList) : (srtBy y xs).head? = if y ∈ xs then some y else xs.head? := by
  cases hs : (srtBy y xs).head? with
  | none =>
    have e : srtBy y xs = [] := List.head?_eq_none_iff.mp hs
    rw [srt_nil.mp e]
    rfl
  | some x =>
    obtain ⟨hx, hl⟩ := srt_head hs
    by_cases hy : y ∈ xs
    · rw [if_pos hy]
      by_cases e : x = y
      · rw [e]
      · have h := hl y hy
        rw [lt_lam, if_neg (by simp [e]), decide_eq_true rfl] at h
        cases h
    · rw [if_neg hy]
      cases xs with
      | nil => cases hx
      | cons a t =>
        rcases List.mem_cons.mp hx with rfl | hx
        · rfl
        · have lt := (List.pairwise_cons.mp pw).1 x hx
          have h := hl a (.head _)
          have n1 : a ≠ y := fun z => hy (z ▸ .head _)
          have n2 : x ≠ y := fun z => hy (z ▸ .tail _ hx)
          have e1 : (a != y) = true := by simp [n1]
          have e2 : (x != y) = true := by simp [n2]
          rw [lt_lam, if_pos (e1.trans e2.symm), decide_eq_true lt] at h
          cases h
end Tr
set_option Elab.async false
set_option linter.all false
set_option maxRecDepth 100000
set_option maxHeartbeats 4000000
namespace K12
open PySem PySem.Spec PyProof.Rows L2 Tr
variable [Tabbed]
def topS (i : Nat) : Stmt := PySem.Challenge.pw_latebound_k12_whole_doors_opened_twice.main.body.getD i (.Pass ⟨0, 0, 0, 0⟩)
abbrev s_is_below : Stmt := topS 2
abbrev N_is_below : List Str := ["thing", "limit"]
theorem sc_is_below : FnScope N_is_below ["thing", "limit"] (defScope s_is_below) := ⟨rfl, rfl, rfl, by decide +kernel, rfl, by decide +kernel, by decide +kernel⟩
abbrev s_frozen : Stmt := topS 4
abbrev N_frozen : List Str := ["value", "part"]
theorem sc_frozen : FnScope N_frozen ["value"] (defScope s_frozen) := ⟨rfl, rfl, rfl, by decide +kernel, rfl, by decide +kernel, by decide +kernel⟩
abbrev s_row : Stmt := topS 13
abbrev N_row : List Str := ["program", "names", "name", "found", "at", "lib"]
theorem sc_row : FnScope N_row ["program", "names"] (defScope s_row) := ⟨rfl, rfl, rfl, by decide +kernel, rfl, by decide +kernel, by decide +kernel⟩
abbrev s_first_row : Stmt := topS 14
abbrev N_first_row : List Str := ["program", "libs", "preload", "_", "main"]
theorem sc_first_row : FnScope N_first_row ["program"] (defScope s_first_row) := ⟨rfl, rfl, rfl, by decide +kernel, rfl, by decide +kernel, by decide +kernel⟩
abbrev s_gives : Stmt := topS 15
abbrev N_gives : List Str := ["program", "name", "use", "versions"]
theorem sc_gives : FnScope N_gives ["program", "name", "use"] (defScope s_gives) := ⟨rfl, rfl, rfl, by decide +kernel, rfl, by decide +kernel, by decide +kernel⟩
abbrev s_serving : Stmt := topS 16
abbrev N_serving : List Str := ["program", "name", "use", "symbol", "wanted", "_", "defs", "versions", "defined", "version"]
theorem sc_serving : FnScope N_serving ["program", "name", "use"] (defScope s_serving) := ⟨rfl, rfl, rfl, by decide +kernel, rfl, by decide +kernel, by decide +kernel⟩
abbrev s_answer_along : Stmt := topS 17
abbrev N_answer_along : List Str := ["program", "along", "use", "name", "version"]
theorem sc_answer_along : FnScope N_answer_along ["program", "along", "use"] (defScope s_answer_along) := ⟨rfl, rfl, rfl, by decide +kernel, rfl, by decide +kernel, by decide +kernel⟩
abbrev s_unbound_answer : Stmt := topS 18
abbrev N_unbound_answer : List Str := ["use"]
theorem sc_unbound_answer : FnScope N_unbound_answer ["use"] (defScope s_unbound_answer) := ⟨rfl, rfl, rfl, by decide +kernel, rfl, by decide +kernel, by decide +kernel⟩
abbrev s_serves : Stmt := topS 19
abbrev N_serves : List Str := ["version", "wanted"]
theorem sc_serves : FnScope N_serves ["version", "wanted"] (defScope s_serves) := ⟨rfl, rfl, rfl, by decide +kernel, rfl, by decide +kernel, by decide +kernel⟩
abbrev s_lib_named : Stmt := topS 20
abbrev N_lib_named : List Str := ["program", "name", "lib"]
theorem sc_lib_named : FnScope N_lib_named ["program", "name"] (defScope s_lib_named) := ⟨rfl, rfl, rfl, by decide +kernel, rfl, by decide +kernel, by decide +kernel⟩
abbrev s_use_in : Stmt := topS 21
abbrev N_use_in : List Str := ["lib", "i", "uses"]
theorem sc_use_in : FnScope N_use_in ["lib", "i"] (defScope s_use_in) := ⟨rfl, rfl, rfl, by decide +kernel, rfl, by decide +kernel, by decide +kernel⟩
abbrev s_add_new : Stmt := topS 22
abbrev N_add_new : List Str := ["found", "names", "name"]
theorem sc_add_new : FnScope N_add_new ["found", "names"] (defScope s_add_new) := ⟨rfl, rfl, rfl, by decide +kernel, rfl, by decide +kernel, by decide +kernel⟩
abbrev s_L_init : Stmt := inClass (topS 24) 0
abbrev N_L_init : List Str := ["self", "program", "public", "deep", "doors", "name", "_", "names", "k"]
theorem sc_L_init : FnScope N_L_init ["self", "program", "public", "deep"] (defScope s_L_init) := ⟨rfl, rfl, rfl, by decide +kernel, rfl, by decide +kernel, by decide +kernel⟩
abbrev s_among : Stmt := topS 25
abbrev N_among : List Str := ["names", "wanted", "name"]
theorem sc_among : FnScope N_among ["names", "wanted"] (defScope s_among) := ⟨rfl, rfl, rfl, by decide +kernel, rfl, by decide +kernel, by decide +kernel⟩
abbrev s_first_base : Stmt := topS 26
abbrev N_first_base : List Str := ["layout"]
theorem sc_first_base : FnScope N_first_base ["layout"] (defScope s_first_base) := ⟨rfl, rfl, rfl, by decide +kernel, rfl, by decide +kernel, by decide +kernel⟩
abbrev s_opened_base : Stmt := topS 27
abbrev N_opened_base : List Str := ["layout", "base", "k"]
theorem sc_opened_base : FnScope N_opened_base ["layout", "base", "k"] (defScope s_opened_base) := ⟨rfl, rfl, rfl, by decide +kernel, rfl, by decide +kernel, by decide +kernel⟩
abbrev s_closed_base : Stmt := topS 28
abbrev N_closed_base : List Str := ["layout", "base", "k"]
theorem sc_closed_base : FnScope N_closed_base ["layout", "base", "k"] (defScope s_closed_base) := ⟨rfl, rfl, rfl, by decide +kernel, rfl, by decide +kernel, by decide +kernel⟩
abbrev s_opening : Stmt := topS 29
abbrev N_opening : List Str := ["layout", "counts", "order", "k", "there", "fresh", "name"]
theorem sc_opening : FnScope N_opening ["layout", "counts", "order", "k"] (defScope s_opening) := ⟨rfl, rfl, rfl, by decide +kernel, rfl, by decide +kernel, by decide +kernel⟩
abbrev s_closing : Stmt := topS 30
abbrev N_closing : List Str := ["layout", "counts", "order", "k", "door", "there", "name"]
theorem sc_closing : FnScope N_closing ["layout", "counts", "order", "k"] (defScope s_closing) := ⟨rfl, rfl, rfl, by decide +kernel, rfl, by decide +kernel, by decide +kernel⟩
abbrev s_changed_base : Stmt := topS 31
abbrev N_changed_base : List Str := ["base", "change", "_", "public", "deep", "counts", "order", "shown", "sunk", "gone", "name"]
theorem sc_changed_base : FnScope N_changed_base ["base", "change"] (defScope s_changed_base) := ⟨rfl, rfl, rfl, by decide +kernel, rfl, by decide +kernel, by decide +kernel⟩
abbrev s_with_count : Stmt := topS 32
abbrev N_with_count : List Str := ["counts", "k", "count"]
theorem sc_with_count : FnScope N_with_count ["counts", "k", "count"] (defScope s_with_count) := ⟨rfl, rfl, rfl, by decide +kernel, rfl, by decide +kernel, by decide +kernel⟩
abbrev s_names_there : Stmt := topS 33
abbrev N_names_there : List Str := ["layout", "order", "there", "name", "k"]
theorem sc_names_there : FnScope N_names_there ["layout", "order"] (defScope s_names_there) := ⟨rfl, rfl, rfl, by decide +kernel, rfl, by decide +kernel, by decide +kernel⟩
abbrev s_looks_along : Stmt := topS 34
abbrev N_looks_along : List Str := ["layout", "base", "name", "_", "order", "public", "deep", "found", "k"]
theorem sc_looks_along : FnScope N_looks_along ["layout", "base", "name"] (defScope s_looks_along) := ⟨rfl, rfl, rfl, by decide +kernel, rfl, by decide +kernel, by decide +kernel⟩
abbrev s_P_init : Stmt := inClass (topS 38) 0
abbrev N_P_init : List Str := ["self", "program"]
theorem sc_P_init : FnScope N_P_init ["self", "program"] (defScope s_P_init) := ⟨rfl, rfl, rfl, by decide +kernel, rfl, by decide +kernel, by decide +kernel⟩
abbrev s_P_open_door : Stmt := inClass (topS 38) 1
abbrev N_P_open_door : List Str := ["self", "k"]
theorem sc_P_open_door : FnScope N_P_open_door ["self", "k"] (defScope s_P_open_door) := ⟨rfl, rfl, rfl, by decide +kernel, rfl, by decide +kernel, by decide +kernel⟩
abbrev s_P_close_door : Stmt := inClass (topS 38) 2
abbrev N_P_close_door : List Str := ["self", "k"]
theorem sc_P_close_door : FnScope N_P_close_door ["self", "k"] (defScope s_P_close_door) := ⟨rfl, rfl, rfl, by decide +kernel, rfl, by decide +kernel, by decide +kernel⟩
abbrev s_P_call : Stmt := inClass (topS 38) 3
abbrev N_P_call : List Str := ["self", "name", "i", "kept", "use", "answer"]
theorem sc_P_call : FnScope N_P_call ["self", "name", "i"] (defScope s_P_call) := ⟨rfl, rfl, rfl, by decide +kernel, rfl, by decide +kernel, by decide +kernel⟩
abbrev s_P_do : Stmt := inClass (topS 38) 4
abbrev N_P_do : List Str := ["self", "step", "_", "name", "i"]
theorem sc_P_do : FnScope N_P_do ["self", "step"] (defScope s_P_do) := ⟨rfl, rfl, rfl, by decide +kernel, rfl, by decide +kernel, by decide +kernel⟩
abbrev s_P_counts : Stmt := inClass (topS 38) 5
abbrev N_P_counts : List Str := ["self"]
theorem sc_P_counts : FnScope N_P_counts ["self"] (defScope s_P_counts) := ⟨rfl, rfl, rfl, by decide +kernel, rfl, by decide +kernel, by decide +kernel⟩
abbrev s_P_opened : Stmt := inClass (topS 38) 6
abbrev N_P_opened : List Str := ["self"]
theorem sc_P_opened : FnScope N_P_opened ["self"] (defScope s_P_opened) := ⟨rfl, rfl, rfl, by decide +kernel, rfl, by decide +kernel, by decide +kernel⟩
abbrev s_P_there : Stmt := inClass (topS 38) 7
abbrev N_P_there : List Str := ["self"]
theorem sc_P_there : FnScope N_P_there ["self"] (defScope s_P_there) := ⟨rfl, rfl, rfl, by decide +kernel, rfl, by decide +kernel, by decide +kernel⟩
abbrev s_P_public : Stmt := inClass (topS 38) 8
abbrev N_P_public : List Str := ["self"]
theorem sc_P_public : FnScope N_P_public ["self"] (defScope s_P_public) := ⟨rfl, rfl, rfl, by decide +kernel, rfl, by decide +kernel, by decide +kernel⟩
abbrev s_P_deep : Stmt := inClass (topS 38) 9
abbrev N_P_deep : List Str := ["self"]
theorem sc_P_deep : FnScope N_P_deep ["self"] (defScope s_P_deep) := ⟨rfl, rfl, rfl, by decide +kernel, rfl, by decide +kernel, by decide +kernel⟩
abbrev s_P_looks : Stmt := inClass (topS 38) 10
abbrev N_P_looks : List Str := ["self", "name"]
theorem sc_P_looks : FnScope N_P_looks ["self", "name"] (defScope s_P_looks) := ⟨rfl, rfl, rfl, by decide +kernel, rfl, by decide +kernel, by decide +kernel⟩
abbrev s_P_slot : Stmt := inClass (topS 38) 11
abbrev N_P_slot : List Str := ["self", "name", "i"]
theorem sc_P_slot : FnScope N_P_slot ["self", "name", "i"] (defScope s_P_slot) := ⟨rfl, rfl, rfl, by decide +kernel, rfl, by decide +kernel, by decide +kernel⟩
abbrev s_P_stand : Stmt := inClass (topS 38) 13
abbrev N_P_stand : List Str := ["self", "answer", "name", "i"]
theorem sc_P_stand : FnScope N_P_stand ["self"] (defScope s_P_stand) := ⟨rfl, rfl, rfl, by decide +kernel, rfl, by decide +kernel, by decide +kernel⟩
abbrev s_P_count : Stmt := inClass (topS 38) 18
abbrev N_P_count : List Str := ["self", "k", "counts"]
theorem sc_P_count : FnScope N_P_count ["self", "k"] (defScope s_P_count) := ⟨rfl, rfl, rfl, by decide +kernel, rfl, by decide +kernel, by decide +kernel⟩
abbrev s_P_lib_there : Stmt := inClass (topS 38) 19
abbrev N_P_lib_there : List Str := ["self", "name", "lib"]
theorem sc_P_lib_there : FnScope N_P_lib_there ["self", "name"] (defScope s_P_lib_there) := ⟨rfl, rfl, rfl, by decide +kernel, rfl, by decide +kernel, by decide +kernel⟩
abbrev s_slots_left : Stmt := topS 39
abbrev N_slots_left : List Str := ["slots", "there", "key"]
theorem sc_slots_left : FnScope N_slots_left ["slots", "there"] (defScope s_slots_left) := ⟨rfl, rfl, rfl, by decide +kernel, rfl, by decide +kernel, by decide +kernel⟩
abbrev s_answer_left : Stmt := topS 40
abbrev N_answer_left : List Str := ["answer", "there"]
theorem sc_answer_left : FnScope N_answer_left ["answer", "there"] (defScope s_answer_left) := ⟨rfl, rfl, rfl, by decide +kernel, rfl, by decide +kernel, by decide +kernel⟩
abbrev s_cell_at : Stmt := topS 42
abbrev N_cell_at : List Str := ["_law_script", "_law_gate"]
theorem sc_cell_at : FnScope N_cell_at ["_law_script", "_law_gate"] (defScope s_cell_at) := ⟨rfl, rfl, rfl, by decide +kernel, rfl, by decide +kernel, by decide +kernel⟩
abbrev s_box : Stmt := topS 43
abbrev N_box : List Str := ["_law_script", "_law_gate", "_law_cell"]
theorem sc_box : FnScope N_box ["_law_script", "_law_gate"] (defScope s_box) := ⟨rfl, rfl, rfl, by decide +kernel, rfl, by decide +kernel, by decide +kernel⟩
abbrev s_take : Stmt := topS 44
abbrev N_take : List Str := ["_law_box_here", "_law_many", "_law_found", "_law_once", "_law_odd", "_law_twice"]
theorem sc_take : FnScope N_take ["_law_box_here", "_law_many"] (defScope s_take) := ⟨rfl, rfl, rfl, by decide +kernel, rfl, by decide +kernel, by decide +kernel⟩
abbrev s_pick : Stmt := topS 45
abbrev N_pick : List Str := ["_law_box_here", "_law_some_here"]
theorem sc_pick : FnScope N_pick ["_law_box_here", "_law_some_here"] (defScope s_pick) := ⟨rfl, rfl, rfl, by decide +kernel, rfl, by decide +kernel, by decide +kernel⟩
abbrev s_same : Stmt := topS 46
abbrev N_same : List Str := ["_law_found", "_law_due"]
theorem sc_same : FnScope N_same ["_law_found", "_law_due"] (defScope s_same) := ⟨rfl, rfl, rfl, by decide +kernel, rfl, by decide +kernel, by decide +kernel⟩
abbrev s_names : Stmt := topS 47
abbrev N_names : List Str := ["_law_box_here", "_law_many", "_law_pool", "_law_found", "_law_time"]
theorem sc_names : FnScope N_names ["_law_box_here", "_law_many"] (defScope s_names) := ⟨rfl, rfl, rfl, by decide +kernel, rfl, by decide +kernel, by decide +kernel⟩
abbrev s_some : Stmt := topS 48
abbrev N_some : List Str := ["_law_box_here", "_law_some_here", "_law_most", "_law_left", "_law_found", "_law_time"]
theorem sc_some : FnScope N_some ["_law_box_here", "_law_some_here", "_law_most"] (defScope s_some) := ⟨rfl, rfl, rfl, by decide +kernel, rfl, by decide +kernel, by decide +kernel⟩
abbrev s_pairs : Stmt := topS 49
abbrev N_pairs : List Str := ["_law_box_here", "_law_most", "_law_found", "_law_time"]
theorem sc_pairs : FnScope N_pairs ["_law_box_here", "_law_most"] (defScope s_pairs) := ⟨rfl, rfl, rfl, by decide +kernel, rfl, by decide +kernel, by decide +kernel⟩
abbrev s_lib : Stmt := topS 50
abbrev N_lib : List Str := ["_law_box_here", "_law_own", "_law_others", "_law_is_main", "_law_needs", "_law_one", "_law_defs", "_law_uses", "_law_pair"]
theorem sc_lib : FnScope N_lib ["_law_box_here", "_law_own", "_law_others", "_law_is_main"] (defScope s_lib) := ⟨rfl, rfl, rfl, by decide +kernel, rfl, by decide +kernel, by decide +kernel⟩
abbrev s_program : Stmt := topS 51
abbrev N_program : List Str := ["_law_box_here", "_law_most", "_law_gates", "_law_folk", "_law_others", "_law_libs", "_law_own", "_law_doors", "_law_time", "_law_door", "_law_early"]
theorem sc_program : FnScope N_program ["_law_box_here", "_law_most", "_law_gates"] (defScope s_program) := ⟨rfl, rfl, rfl, by decide +kernel, rfl, by decide +kernel, by decide +kernel⟩
abbrev s_step : Stmt := topS 52
abbrev N_step : List Str := ["_law_box_here", "_law_plot", "_law_calls", "_law_lib_here", "_law_spot", "_law_way", "_law_gate"]
theorem sc_step : FnScope N_step ["_law_box_here", "_law_plot"] (defScope s_step) := ⟨rfl, rfl, rfl, by decide +kernel, rfl, by decide +kernel, by decide +kernel⟩
abbrev s_tried : Stmt := topS 53
abbrev N_tried : List Str := ["_law_host", "_law_stride"]
theorem sc_tried : FnScope N_tried ["_law_host", "_law_stride"] (defScope s_tried) := ⟨rfl, rfl, rfl, by decide +kernel, rfl, by decide +kernel, by decide +kernel⟩
abbrev s_image : Stmt := topS 54
abbrev N_image : List Str := ["_law_host"]
theorem sc_image : FnScope N_image ["_law_host"] (defScope s_image) := ⟨rfl, rfl, rfl, by decide +kernel, rfl, by decide +kernel, by decide +kernel⟩
abbrev s_right : Stmt := topS 55
abbrev N_right : List Str := ["_law_box_here", "_law_turn", "_law_plot", "_law_time", "_law_host", "_law_mate", "_law_stride", "_law_many", "_law_told", "_law_before"]
theorem sc_right : FnScope N_right ["_law_box_here"] (defScope s_right) := ⟨rfl, rfl, rfl, by decide +kernel, rfl, by decide +kernel, by decide +kernel⟩
abbrev s_law : Stmt := topS 56
abbrev N_law : List Str := ["_law_script", "_law_gate", "_law_box_here", "_law_time"]
theorem sc_law : FnScope N_law ["_law_script"] (defScope s_law) := ⟨rfl, rfl, rfl, by decide +kernel, rfl, by decide +kernel, by decide +kernel⟩
/-- a constant of the module: a tuple of one text -/
def One1 (K : PySem.W.Frag) (mg : Str → Option Value) (x z : Str) : Prop := ∃ (a : Addr) (od : Option Addr) (sl : Array (Option Value)) (n : Nat) (t : Tok), mg x = some (.ref a) ∧ K.lookup a = some ⟨.type "tuple", od, .seq #[.str z t] n, sl⟩
/-- where the defs stand behind the top -/
structure Top [Tabbed] (K : PySem.W.Frag) (mg : Str → Option Value) where
  a_is_below : Addr
  d_is_below : FuncData
  F_is_below : Fun K "is_below" "is_below" s_is_below a_is_below d_is_below
  B_is_below : Binds K d_is_below ["thing", "limit"] []
  m_is_below : mg "is_below" = some (.ref a_is_below)
  a_frozen : Addr
  d_frozen : FuncData
  F_frozen : Fun K "frozen" "frozen" s_frozen a_frozen d_frozen
  B_frozen : Binds K d_frozen ["value"] []
  m_frozen : mg "frozen" = some (.ref a_frozen)
  a_row : Addr
  d_row : FuncData
  F_row : Fun K "row" "row" s_row a_row d_row
  B_row : Binds K d_row ["program", "names"] []
  m_row : mg "row" = some (.ref a_row)
  a_first_row : Addr
  d_first_row : FuncData
  F_first_row : Fun K "first_row" "first_row" s_first_row a_first_row d_first_row
  B_first_row : Binds K d_first_row ["program"] []
  m_first_row : mg "first_row" = some (.ref a_first_row)
  a_gives : Addr
  d_gives : FuncData
  F_gives : Fun K "gives" "gives" s_gives a_gives d_gives
  B_gives : Binds K d_gives ["program", "name", "use"] []
  m_gives : mg "gives" = some (.ref a_gives)
  a_serving : Addr
  d_serving : FuncData
  F_serving : Fun K "serving" "serving" s_serving a_serving d_serving
  B_serving : Binds K d_serving ["program", "name", "use"] []
  m_serving : mg "serving" = some (.ref a_serving)
  a_answer_along : Addr
  d_answer_along : FuncData
  F_answer_along : Fun K "answer_along" "answer_along" s_answer_along a_answer_along d_answer_along
  B_answer_along : Binds K d_answer_along ["program", "along", "use"] []
  m_answer_along : mg "answer_along" = some (.ref a_answer_along)
  a_unbound_answer : Addr
  d_unbound_answer : FuncData
  F_unbound_answer : Fun K "unbound_answer" "unbound_answer" s_unbound_answer a_unbound_answer d_unbound_answer
  B_unbound_answer : Binds K d_unbound_answer ["use"] []
  m_unbound_answer : mg "unbound_answer" = some (.ref a_unbound_answer)
  a_serves : Addr
  d_serves : FuncData
  F_serves : Fun K "serves" "serves" s_serves a_serves d_serves
  B_serves : Binds K d_serves ["version", "wanted"] []
  m_serves : mg "serves" = some (.ref a_serves)
  a_lib_named : Addr
  d_lib_named : FuncData
  F_lib_named : Fun K "lib_named" "lib_named" s_lib_named a_lib_named d_lib_named
  B_lib_named : Binds K d_lib_named ["program", "name"] []
  m_lib_named : mg "lib_named" = some (.ref a_lib_named)
  a_use_in : Addr
  d_use_in : FuncData
  F_use_in : Fun K "use_in" "use_in" s_use_in a_use_in d_use_in
  B_use_in : Binds K d_use_in ["lib", "i"] []
  m_use_in : mg "use_in" = some (.ref a_use_in)
  a_add_new : Addr
  d_add_new : FuncData
  F_add_new : Fun K "add_new" "add_new" s_add_new a_add_new d_add_new
  B_add_new : Binds K d_add_new ["found", "names"] []
  m_add_new : mg "add_new" = some (.ref a_add_new)
  C_L : Addr
  m_L : mg "Layout" = some (.ref C_L)
  c_L : Cls K C_L
  a_L_init : Addr
  d_L_init : FuncData
  F_L_init : L2.FunD K "__init__" "Layout.__init__" (defArgs s_L_init) (defBody s_L_init) (defScope s_L_init) [.non, .non] [] a_L_init d_L_init
  B_L_init : Binds K d_L_init ["self", "program", "public", "deep"] [.none, .none]
  mk_L : Mk K C_L a_L_init
  a_among : Addr
  d_among : FuncData
  F_among : Fun K "among" "among" s_among a_among d_among
  B_among : Binds K d_among ["names", "wanted"] []
  m_among : mg "among" = some (.ref a_among)
  a_first_base : Addr
  d_first_base : FuncData
  F_first_base : Fun K "first_base" "first_base" s_first_base a_first_base d_first_base
  B_first_base : Binds K d_first_base ["layout"] []
  m_first_base : mg "first_base" = some (.ref a_first_base)
  a_opened_base : Addr
  d_opened_base : FuncData
  F_opened_base : Fun K "opened_base" "opened_base" s_opened_base a_opened_base d_opened_base
  B_opened_base : Binds K d_opened_base ["layout", "base", "k"] []
  m_opened_base : mg "opened_base" = some (.ref a_opened_base)
  a_closed_base : Addr
  d_closed_base : FuncData
  F_closed_base : Fun K "closed_base" "closed_base" s_closed_base a_closed_base d_closed_base
  B_closed_base : Binds K d_closed_base ["layout", "base", "k"] []
  m_closed_base : mg "closed_base" = some (.ref a_closed_base)
  a_opening : Addr
  d_opening : FuncData
  F_opening : Fun K "opening" "opening" s_opening a_opening d_opening
  B_opening : Binds K d_opening ["layout", "counts", "order", "k"] []
  m_opening : mg "opening" = some (.ref a_opening)
  a_closing : Addr
  d_closing : FuncData
  F_closing : Fun K "closing" "closing" s_closing a_closing d_closing
  B_closing : Binds K d_closing ["layout", "counts", "order", "k"] []
  m_closing : mg "closing" = some (.ref a_closing)
  a_changed_base : Addr
  d_changed_base : FuncData
  F_changed_base : Fun K "changed_base" "changed_base" s_changed_base a_changed_base d_changed_base
  B_changed_base : Binds K d_changed_base ["base", "change"] []
  m_changed_base : mg "changed_base" = some (.ref a_changed_base)
  a_with_count : Addr
  d_with_count : FuncData
  F_with_count : Fun K "with_count" "with_count" s_with_count a_with_count d_with_count
  B_with_count : Binds K d_with_count ["counts", "k", "count"] []
  m_with_count : mg "with_count" = some (.ref a_with_count)
  a_names_there : Addr
  d_names_there : FuncData
  F_names_there : Fun K "names_there" "names_there" s_names_there a_names_there d_names_there
  B_names_there : Binds K d_names_there ["layout", "order"] []
  m_names_there : mg "names_there" = some (.ref a_names_there)
  a_looks_along : Addr
  d_looks_along : FuncData
  F_looks_along : Fun K "looks_along" "looks_along" s_looks_along a_looks_along d_looks_along
  B_looks_along : Binds K d_looks_along ["layout", "base", "name"] []
  m_looks_along : mg "looks_along" = some (.ref a_looks_along)
  C_P : Addr
  m_P : mg "Process" = some (.ref C_P)
  c_P : Cls K C_P
  a_P_init : Addr
  d_P_init : FuncData
  F_P_init : Fun K "__init__" "Process.__init__" s_P_init a_P_init d_P_init
  B_P_init : Binds K d_P_init ["self", "program"] []
  mk_P : Mk K C_P a_P_init
  a_P_open_door : Addr
  d_P_open_door : FuncData
  F_P_open_door : Fun K "open_door" "Process.open_door" s_P_open_door a_P_open_door d_P_open_door
  B_P_open_door : Binds K d_P_open_door ["self", "k"] []
  h_P_open_door : Meth K C_P "open_door" a_P_open_door
  a_P_close_door : Addr
  d_P_close_door : FuncData
  F_P_close_door : Fun K "close_door" "Process.close_door" s_P_close_door a_P_close_door d_P_close_door
  B_P_close_door : Binds K d_P_close_door ["self", "k"] []
  h_P_close_door : Meth K C_P "close_door" a_P_close_door
  a_P_call : Addr
  d_P_call : FuncData
  F_P_call : Fun K "call" "Process.call" s_P_call a_P_call d_P_call
  B_P_call : Binds K d_P_call ["self", "name", "i"] []
  h_P_call : Meth K C_P "call" a_P_call
  a_P_do : Addr
  d_P_do : FuncData
  F_P_do : Fun K "do" "Process.do" s_P_do a_P_do d_P_do
  B_P_do : Binds K d_P_do ["self", "step"] []
  h_P_do : Meth K C_P "do" a_P_do
  a_P_counts : Addr
  d_P_counts : FuncData
  F_P_counts : Fun K "counts" "Process.counts" s_P_counts a_P_counts d_P_counts
  B_P_counts : Binds K d_P_counts ["self"] []
  h_P_counts : Meth K C_P "counts" a_P_counts
  a_P_opened : Addr
  d_P_opened : FuncData
  F_P_opened : Fun K "opened" "Process.opened" s_P_opened a_P_opened d_P_opened
  B_P_opened : Binds K d_P_opened ["self"] []
  h_P_opened : Meth K C_P "opened" a_P_opened
  a_P_there : Addr
  d_P_there : FuncData
  F_P_there : Fun K "there" "Process.there" s_P_there a_P_there d_P_there
  B_P_there : Binds K d_P_there ["self"] []
  h_P_there : Meth K C_P "there" a_P_there
  a_P_public : Addr
  d_P_public : FuncData
  F_P_public : Fun K "public" "Process.public" s_P_public a_P_public d_P_public
  B_P_public : Binds K d_P_public ["self"] []
  h_P_public : Meth K C_P "public" a_P_public
  a_P_deep : Addr
  d_P_deep : FuncData
  F_P_deep : Fun K "deep" "Process.deep" s_P_deep a_P_deep d_P_deep
  B_P_deep : Binds K d_P_deep ["self"] []
  h_P_deep : Meth K C_P "deep" a_P_deep
  a_P_looks : Addr
  d_P_looks : FuncData
  F_P_looks : Fun K "looks" "Process.looks" s_P_looks a_P_looks d_P_looks
  B_P_looks : Binds K d_P_looks ["self", "name"] []
  h_P_looks : Meth K C_P "looks" a_P_looks
  a_P_slot : Addr
  d_P_slot : FuncData
  F_P_slot : Fun K "slot" "Process.slot" s_P_slot a_P_slot d_P_slot
  B_P_slot : Binds K d_P_slot ["self", "name", "i"] []
  h_P_slot : Meth K C_P "slot" a_P_slot
  a_P_stand : Addr
  d_P_stand : FuncData
  F_P_stand : Fun K "stand" "Process.stand" s_P_stand a_P_stand d_P_stand
  B_P_stand : Binds K d_P_stand ["self"] []
  h_P_stand : Meth K C_P "stand" a_P_stand
  a_P_count : Addr
  d_P_count : FuncData
  F_P_count : Fun K "_count" "Process._count" s_P_count a_P_count d_P_count
  B_P_count : Binds K d_P_count ["self", "k"] []
  h_P_count : Meth K C_P "_count" a_P_count
  a_P_lib_there : Addr
  d_P_lib_there : FuncData
  F_P_lib_there : Fun K "_lib_there" "Process._lib_there" s_P_lib_there a_P_lib_there d_P_lib_there
  B_P_lib_there : Binds K d_P_lib_there ["self", "name"] []
  h_P_lib_there : Meth K C_P "_lib_there" a_P_lib_there
  a_slots_left : Addr
  d_slots_left : FuncData
  F_slots_left : Fun K "slots_left" "slots_left" s_slots_left a_slots_left d_slots_left
  B_slots_left : Binds K d_slots_left ["slots", "there"] []
  m_slots_left : mg "slots_left" = some (.ref a_slots_left)
  a_answer_left : Addr
  d_answer_left : FuncData
  F_answer_left : Fun K "answer_left" "answer_left" s_answer_left a_answer_left d_answer_left
  B_answer_left : Binds K d_answer_left ["answer", "there"] []
  m_answer_left : mg "answer_left" = some (.ref a_answer_left)
  a_cell_at : Addr
  d_cell_at : FuncData
  F_cell_at : Fun K "_law_cell_at" "_law_cell_at" s_cell_at a_cell_at d_cell_at
  B_cell_at : Binds K d_cell_at ["_law_script", "_law_gate"] []
  m_cell_at : mg "_law_cell_at" = some (.ref a_cell_at)
  a_box : Addr
  d_box : FuncData
  F_box : Fun K "_law_box" "_law_box" s_box a_box d_box
  B_box : Binds K d_box ["_law_script", "_law_gate"] []
  m_box : mg "_law_box" = some (.ref a_box)
  a_take : Addr
  d_take : FuncData
  F_take : Fun K "_law_take" "_law_take" s_take a_take d_take
  B_take : Binds K d_take ["_law_box_here", "_law_many"] []
  m_take : mg "_law_take" = some (.ref a_take)
  a_pick : Addr
  d_pick : FuncData
  F_pick : Fun K "_law_pick" "_law_pick" s_pick a_pick d_pick
  B_pick : Binds K d_pick ["_law_box_here", "_law_some_here"] []
  m_pick : mg "_law_pick" = some (.ref a_pick)
  a_same : Addr
  d_same : FuncData
  F_same : Fun K "_law_same" "_law_same" s_same a_same d_same
  B_same : Binds K d_same ["_law_found", "_law_due"] []
  m_same : mg "_law_same" = some (.ref a_same)
  a_names : Addr
  d_names : FuncData
  F_names : Fun K "_law_names" "_law_names" s_names a_names d_names
  B_names : Binds K d_names ["_law_box_here", "_law_many"] []
  m_names : mg "_law_names" = some (.ref a_names)
  a_some : Addr
  d_some : FuncData
  F_some : Fun K "_law_some" "_law_some" s_some a_some d_some
  B_some : Binds K d_some ["_law_box_here", "_law_some_here", "_law_most"] []
  m_some : mg "_law_some" = some (.ref a_some)
  a_pairs : Addr
  d_pairs : FuncData
  F_pairs : Fun K "_law_pairs" "_law_pairs" s_pairs a_pairs d_pairs
  B_pairs : Binds K d_pairs ["_law_box_here", "_law_most"] []
  m_pairs : mg "_law_pairs" = some (.ref a_pairs)
  a_lib : Addr
  d_lib : FuncData
  F_lib : Fun K "_law_lib" "_law_lib" s_lib a_lib d_lib
  B_lib : Binds K d_lib ["_law_box_here", "_law_own", "_law_others", "_law_is_main"] []
  m_lib : mg "_law_lib" = some (.ref a_lib)
  a_program : Addr
  d_program : FuncData
  F_program : Fun K "_law_program" "_law_program" s_program a_program d_program
  B_program : Binds K d_program ["_law_box_here", "_law_most", "_law_gates"] []
  m_program : mg "_law_program" = some (.ref a_program)
  a_step : Addr
  d_step : FuncData
  F_step : Fun K "_law_step" "_law_step" s_step a_step d_step
  B_step : Binds K d_step ["_law_box_here", "_law_plot"] []
  m_step : mg "_law_step" = some (.ref a_step)
  a_tried : Addr
  d_tried : FuncData
  F_tried : Fun K "_law_tried" "_law_tried" s_tried a_tried d_tried
  B_tried : Binds K d_tried ["_law_host", "_law_stride"] []
  m_tried : mg "_law_tried" = some (.ref a_tried)
  a_image : Addr
  d_image : FuncData
  F_image : Fun K "_law_image" "_law_image" s_image a_image d_image
  B_image : Binds K d_image ["_law_host"] []
  m_image : mg "_law_image" = some (.ref a_image)
  a_right : Addr
  d_right : FuncData
  F_right : Fun K "_law_right" "_law_right" s_right a_right d_right
  B_right : Binds K d_right ["_law_box_here"] []
  m_right : mg "_law_right" = some (.ref a_right)
  a_law : Addr
  d_law : FuncData
  F_law : Fun K "law" "law" s_law a_law d_law
  B_law : Binds K d_law ["_law_script"] []
  m_law : mg "law" = some (.ref a_law)
  n_L_first : NoAttr K C_L "first"
  n_L_rows : NoAttr K C_L "rows"
  n_L_first_seen : NoAttr K C_L "first_seen"
  n_L_rows_seen : NoAttr K C_L "rows_seen"
  n_L_into_public : NoAttr K C_L "into_public"
  n_L_into_deep : NoAttr K C_L "into_deep"
  n_P_program : NoAttr K C_P "_program"
  n_P_layout : NoAttr K C_P "_layout"
  n_P_base : NoAttr K C_P "_base"
  n_P_slots : NoAttr K C_P "_slots"
  b_abs : mg "abs" = none
  b_all : mg "all" = none
  b_bool : mg "bool" = none
  b_int : mg "int" = none
  b_isinstance : mg "isinstance" = none
  b_len : mg "len" = none
  b_list : mg "list" = none
  b_min : mg "min" = none
  b_range : mg "range" = none
  b_repr : mg "repr" = none
  b_set : mg "set" = none
  b_sorted : mg "sorted" = none
  b_str : mg "str" = none
  b_tuple : mg "tuple" = none
  cS : Addr
  PS : Addr
  cd_serving : d_serving.code = .ref cS
  hd : ∀ h : Heap, K.In h → PySem.W.CodeHd h cS PS
  tab : (PS, fun _ _ => ("serving" ++ ".<locals>." ++ "<lambda>" : Str)) ∈ Tabbed.T
  one : ∀ p ∈ Tabbed.T, p.1 = PS → p.2 = fun _ _ => ("serving" ++ ".<locals>." ++ "<lambda>" : Str)
  t_mo : Tok
  m_mo : mg "MOST_OPEN" = some (.int 2 t_mo)
  g_nb : One1 K mg "NOBODY" "nobody"
  g_lo : One1 K mg "LOST" "lost"
  g_to : One1 K mg "TORN" "torn"
end K12
set_option Elab.async false
set_option linter.all false
set_option maxRecDepth 100000
set_option maxHeartbeats 4000000
namespace K12
open PySem PySem.Spec PyProof.Rows L2 Tr
variable [Tabbed]
local macro_rules | `(tactic| walk_at "tr") => `(tactic| simp only [Tr.Later, wRet, wRetN, wExpr, wAsg, wSet, wSetN, wPar, wParV0, wParN0, wAugI, wgNil, wgCons, wCall, wCall0, wCallM, wCallN, wIxO, wFn, wFn1, wFnN, wTuple1, wAppend, wPopAt, wSetO, wNeO, wIsN, wTup, wLst, wYes, wRep, wSliceL, wSliceT, wRev, ownAt, asInt, asNat, asList, asTuple, someOf, at0, at1, at2, at3, wIf, wB, wOp, wOpN, wName, wLook, wN, wC, wAnd, wOr, wNot, wAndV, wOrV, wNotV, wSeq, wNext, wIfS, wNil, wCons, wPart, wgSeq, gvName, wTurn, wipeE, gI, gI0, gEq, gNe, gLen, gIx, gInt, gAbs, gMin2, gList, gTup1, gAll, gCatL, gCatT, isNone, startE, startM, List.map_cons, List.map_nil, List.length_cons, List.length_nil, List.cons_append, List.nil_append, List.getElem?_cons_zero, List.getElem?_cons_succ, List.set_cons_zero, List.set_cons_succ, List.replicate, List.length_map, if_true, if_false, Bool.false_eq_true, reduceIte, List.mem_cons, List.not_mem_nil, or_false, forall_eq, forall_eq_or_imp, false_implies, implies_true, true_and, and_true, Option.bind_some, Option.map_some, Option.map_none, Int.reduceLT, Int.reduceLE, Int.reduceToNat, Int.toNat_zero, Int.toNat_one, Int.toNat_natCast, Nat.reduceAdd, Nat.reduceLT, decide_true, List.set, Int.add_zero, Int.zero_add])
/-- a box of draws, n times asked at the most -/
def BoxOk (n : Nat) (cs : List PyData) : Prop := ∃ a b c : Int, cs = [.int a, .int b, .int c] ∧ 0 ≤ a ∧ 0 ≤ b ∧ b < 4611686018427387904 ∧ 0 ≤ c ∧ c ≤ n
theorem BoxOk.mono {n m : Nat} {cs : List PyData} (h : BoxOk n cs) (l : n ≤ m) : BoxOk m cs := by
  obtain ⟨a, b, c, e, h1, h2, h3, h4, h5⟩ := h
  exact ⟨a, b, c, e, h1, h2, h3, h4, by omega⟩
theorem fmod_nat (z : Int) {m : Nat} (h : 0 < m) : ∃ r : Nat, z.fmod m = r ∧ r < m := by
  have h1 : 0 ≤ z.fmod m := Int.fmod_nonneg_of_pos z (by omega)
  have h2 : z.fmod m < m := Int.fmod_lt_of_pos z (by omega)
  exact ⟨(z.fmod m).toNat, by omega, by omega⟩
theorem fmod_bd (z : Int) (m : Int) (h : 0 < m) : 0 ≤ z.fmod m ∧ z.fmod m < m := ⟨Int.fmod_nonneg_of_pos z h, Int.fmod_lt_of_pos z h⟩
theorem fdiv_nn (z : Int) (m : Int) (hz : 0 ≤ z) (h : 0 < m) : 0 ≤ z.fdiv m := by
  rw [Int.fdiv_eq_ediv_of_nonneg z (by omega)]
  exact Int.ediv_nonneg hz (by omega)
section
variable {P : Program} {w : World} {K : PySem.W.Frag} {mg : Str → Option Value} {base : Heap}
def tCell : TSp := fun ds Q => ∃ (ns : List Int) (g : Nat), ds = [.list (ns.map .int), .int g] ∧ Q (.int (ns.getD g 0))
theorem ok_cell_at (T : Top K mg) : FnOk P w K mg base (L2.CX P w) 1 T.a_cell_at T.d_cell_at ["_law_script", "_law_gate"] (spV K 2 tCell) := by
  refine fn_pure T.F_cell_at sc_cell_at rfl fun c A o s H E hr => ⟨_, _, (svs_one (sv_ret (ev_if (et_lt (ev_name 1) (ev_len T.b_len (er_name 0))) (ev_ix (ev_name 0) (ev_name 1)) ev_int))), fun ds P' hl hT => ?_⟩
  obtain ⟨ns, g, rfl, q⟩ := hT
  walk_at "tr"
  split
  · rename_i h
    have h' : g < ns.length := by simpa using h
    rw [show atI (ns.map PyData.int) (g : Int) = some (.int (ns.getD g 0)) from atI_nat (by simp [h'])]
    exact q
  · rename_i h
    have h' : ¬ g < ns.length := by simpa using h
    rw [show ns.getD g 0 = 0 by simp [List.getD_eq_getElem?_getD, List.getElem?_eq_none (Nat.le_of_not_lt h')]] at q
    exact q
def tTake : TSm := fun cs ds Q => ∃ (n many : Nat), BoxOk n cs ∧ n < 1000000 ∧ ds = [.int many] ∧ 0 < many ∧ many < 1073741824 ∧ ∀ (r : Nat) cs', r < many → BoxOk (n + 1) cs' → Q (.int r) cs'
theorem ok_take (T : Top K mg) : FnOk P w K mg base (L2.CX P w) 1 T.a_take T.d_take ["_law_box_here", "_law_many"] (spM K 1 tTake) := by
  refine fn_mut T.F_take sc_take rfl fun c A o s H E hr => ?_
  have nd := sc_take.nd
  refine ⟨_, _, (svs_cons (sv_if (et_gt (ev_ixO 0 ev_int) ev_int) (svs_cons (sv_set 2 nd (ev_mod (ev_int1 T.b_int (ea_cons (ev_ixO 0 ev_int) ea_nil)) (ev_name 1)))
      (svs_cons (sv_setO 0 (ev_fdiv (ev_ixO 0 ev_int) (ev_name 1)) ev_int (pg_sub (pe_var rfl (by first | exact Or.inl rfl | exact Or.inr (Or.inl rfl))) (ev_int).pe set_list))
      (svs_one (sv_ret (ev_name 2))))) svs_nil)
      (svs_cons (sv_setO 0 (ev_add (ev_ixO 0 ev_int) ev_int) ev_int (pg_sub (pe_var rfl (by first | exact Or.inl rfl | exact Or.inr (Or.inl rfl))) (ev_int).pe set_list))
      (svs_cons (sv_set 3 nd (ev_mod (ev_int1 T.b_int (ea_cons (ev_mul (ev_add (ev_ixO 0 ev_int) (ev_mul ev_int (ev_ixO 0 ev_int))) (ev_add ev_int (ev_ixO 0 ev_int))) ea_nil)) ev_int))
      (svs_cons (sv_set 4 nd (ev_add (ev_mod (ev_int1 T.b_int (ea_cons (ev_name 3) ea_nil)) ev_int) ev_int))
      (svs_cons (sv_set 5 nd (ev_mod (ev_int1 T.b_int (ea_cons (ev_mul (ev_add (ev_add (ev_name 3) (ev_ixO 0 ev_int)) (ev_fdiv (ev_ixO 0 ev_int) ev_int)) (ev_name 4)) ea_nil)) ev_int))
      (svs_one (sv_ret (ev_mod (ev_int1 T.b_int (ea_cons (ev_fdiv (ev_mod (ev_int1 T.b_int (ea_cons (ev_add (ev_mul (ev_name 5) ev_int) (ev_name 3)) ea_nil)) ev_int) ev_int) ea_nil)) (ev_name 1))))))))), fun cs ds P' hl hT => ?_⟩
  obtain ⟨n, many, ⟨a, b, c, rfl, ha, hb, hb2, hc, hcn⟩, hn, rfl, hm, hm2, q⟩ := hT
  walk_at "tr"
  have hm0 : (many : Int) ≠ 0 := by omega
  have hd : CDivN a (many : Int) := ⟨hm0, by omega⟩
  split
  · obtain ⟨r, e, hr2⟩ := fmod_nat a hm
    refine ⟨hm0, hd, ?_⟩
    rw [e]
    exact q r _ hr2 ⟨_, _, _, rfl, fdiv_nn a many ha (by omega), hb, hb2, hc, by omega⟩
  · generalize hx : ((b + 52021 * (c + 1)) * (38039 + (c + 1))).fmod 2147483647 = x
    have bx := fmod_bd ((b + 52021 * (c + 1)) * (38039 + (c + 1))) 2147483647 (by decide)
    rw [hx] at bx
    generalize hy : x.fmod 40009 = y
    have by' := fmod_bd x 40009 (by decide)
    rw [hy] at by'
    generalize b.fdiv 1000003 = b1
    generalize hz : ((x + (c + 1) + b1) * (y + 11)).fmod 2147483629 = z
    have bz := fmod_bd ((x + (c + 1) + b1) * (y + 11)) 2147483629 (by decide)
    rw [hz] at bz
    obtain ⟨r, e, hr2⟩ := fmod_nat (((z * 52021 + x).fmod 2147483587).fdiv 64) hm
    rw [e]
    refine ⟨.inl ⟨by decide, by decide⟩, .inr ⟨by omega, by omega⟩, by decide, by decide, ⟨by decide, by decide⟩, .inr ⟨by omega, by omega⟩, by decide, .inr ⟨by decide, by decide⟩, by decide, ⟨by decide, by decide⟩, hm0, ?_⟩
    exact q r _ hr2 ⟨_, _, _, rfl, ha, hb, hb2, by omega, by omega⟩
/-- one of them -/
def tPick : TSm := fun cs ds Q => ∃ (n : Nat) (xs : List PyData) (b : Bool), BoxOk n cs ∧ n < 1000000 ∧ ds = [seqOf b xs] ∧ 0 < xs.length ∧ xs.length < 1073741824 ∧ ∀ x cs', x ∈ xs → BoxOk (n + 1) cs' → Q x cs'
theorem ok_pick (T : Top K mg) : FnOk P w K mg base (L2.CX P w) 2 T.a_pick T.d_pick ["_law_box_here", "_law_some_here"] (spM K 1 tPick) := by
  refine fn_mut T.F_pick sc_pick rfl fun c A o s H E hr => ?_
  have nd := sc_pick.nd
  refine ⟨_, _, (svs_one (sv_ret (ev_ix (ev_name 1) (ev_callM 0 (ok_take T) (hr.mono (by decide)) T.m_take T.F_take.kp T.B_take (ea_cons (ev_len T.b_len (er_name 1)) ea_nil))))), fun cs ds P' hl hT => ?_⟩
  obtain ⟨n, xs, b, hB, hn, rfl, h0, h1, q⟩ := hT
  have fin : ∀ (r : Nat) cs', r < xs.length → BoxOk (n + 1) cs' → someOf (atI xs (r : Int)) fun z => P' z cs' := fun r cs' hr hB' => by
    rw [show atI xs (r : Int) = some xs[r] from atI_nat (List.getElem?_eq_getElem hr)]
    exact q _ cs' (List.getElem_mem hr) hB'
  cases b with
  | false =>
    walk_at "tr"
    simp only [seqOf, Bool.false_eq_true, if_false]
    exact ⟨n, xs.length, hB, hn, rfl, h0, h1, fun r cs' hr hB' => fin r cs' hr hB'⟩
  | true =>
    walk_at "tr"
    simp only [seqOf, if_true]
    exact ⟨n, xs.length, hB, hn, rfl, h0, h1, fun r cs' hr hB' => fin r cs' hr hB'⟩
/-- a new box -/
def tBox : TSn := fun ds Q => ∃ (ns : List Int) (g : Nat), ds = [.list (ns.map .int), .int g] ∧ g < 100 ∧ ∀ cs, BoxOk 0 cs → Q cs
theorem ok_box (T : Top K mg) : FnOk P w K mg base (L2.CX P w) 2 T.a_box T.d_box ["_law_script", "_law_gate"] (spN K 2 tBox) := by
  refine fn_new T.F_box sc_box rfl fun c A o s H E hr => ?_
  have nd := sc_box.nd
  refine ⟨_, _, (svs_cons (sv_set 2 nd (ev_call (ok_cell_at T) (hr.mono (by decide)) T.m_cell_at T.F_cell_at.kp T.B_cell_at (ea_cons (ev_name 0) (ea_cons (ev_name 1) ea_nil))))
      (svs_one (sv_retN (en_lst (ea_cons (ev_mul (ev_abs T.b_abs (ea_cons (ev_name 2) ea_nil)) (ev_int1 T.b_int (ea_cons (ev_ge (ev_abs T.b_abs (ea_cons (ev_name 2) ea_nil)) (ev_pow ev_int ev_int)) ea_nil))) (ea_cons (ev_add (ev_add (ev_mod (ev_int1 T.b_int (ea_cons (ev_name 2) ea_nil)) ev_int) (ev_mul ev_int (ev_name 1))) ev_int) (ea_cons ev_int ea_nil))))))), fun ds P' hl hT => ?_⟩
  obtain ⟨ns, g, rfl, hg, q⟩ := hT
  walk_at "tr"
  refine ⟨ns, g, rfl, ?_⟩
  generalize ns.getD g 0 = z
  have b1 : ∀ (p : Bool), 0 ≤ (if p = true then (1 : Int) else 0) ∧ (if p = true then (1 : Int) else 0) ≤ 1 := fun p => by cases p <;> decide
  have bx := fmod_bd z 2305843009213693951 (by decide)
  have bz : 0 ≤ (if z < 0 then -z else z) := by split <;> omega
  refine ⟨⟨by decide, by decide, by decide⟩, .inr ⟨?_, ?_⟩, by decide, .inl ⟨by decide, by decide⟩, by decide, ?_⟩
  · have := (b1 (decide (10 ^ 18 ≤ if z < 0 then -z else z))).1
    omega
  · have := (b1 (decide (10 ^ 18 ≤ if z < 0 then -z else z))).2
    omega
  · exact q _ ⟨_, _, _, rfl, Int.mul_nonneg bz (b1 _).1, by omega, by omega, by omega, by omega⟩
end
end K12
set_option Elab.async false
set_option linter.all false
set_option maxRecDepth 100000
set_option maxHeartbeats 4000000
namespace K12
open PySem PySem.Spec PyProof.Rows L2 Tr
variable [Tabbed]
local macro_rules | `(tactic| walk_at "tr") => `(tactic| simp only [Tr.Later, wRet, wRetN, wExpr, wAsg, wSet, wSetN, wPar, wParV0, wParN0, wAugI, wgNil, wgCons, wCall, wCall0, wCallM, wCallN, wIxO, wFn, wFn1, wFnN, wTuple1, wAppend, wPopAt, wSetO, wNeO, wIsN, wTup, wLst, wYes, wRep, wSliceL, wSliceT, wRev, ownAt, asInt, asNat, asList, asTuple, someOf, at0, at1, at2, at3, wIf, wB, wOp, wOpN, wName, wLook, wN, wC, wAnd, wOr, wNot, wAndV, wOrV, wNotV, wSeq, wNext, wIfS, wNil, wCons, wPart, wgSeq, gvName, wTurn, wipeE, gI, gI0, gEq, gNe, gLen, gIx, gInt, gAbs, gMin2, gList, gTup1, gAll, gCatL, gCatT, isNone, startE, startM, List.map_cons, List.map_nil, List.length_cons, List.length_nil, List.cons_append, List.nil_append, List.getElem?_cons_zero, List.getElem?_cons_succ, List.set_cons_zero, List.set_cons_succ, List.replicate, List.length_map, if_true, if_false, Bool.false_eq_true, reduceIte, List.mem_cons, List.not_mem_nil, or_false, forall_eq, forall_eq_or_imp, false_implies, implies_true, true_and, and_true, Option.bind_some, Option.map_some, Option.map_none, Int.reduceLT, Int.reduceLE, Int.reduceToNat, Int.toNat_zero, Int.toNat_one, Int.toNat_natCast, Nat.reduceAdd, Nat.reduceLT, decide_true, List.set, Int.add_zero, Int.zero_add])
theorem map_erase {α β : Type} (f : α → β) : ∀ (l : List α) (i : Nat), (l.map f).eraseIdx i = (l.eraseIdx i).map f
  | [], i => by simp
  | x :: l, 0 => rfl
  | x :: l, i + 1 => by
    show f x :: (l.map f).eraseIdx i = _
    rw [map_erase f l i] <;> rfl
/-- every text that is met -/
def words : List Str := (["pa", "b", "ring", "cxx", "deep", "a", "zlib", "open", "q", "local", "global", "f", "g", "h", "none", "", "c", "aa", "cc", "d", "zz", "main", "x", "nobody"] : List Str) ++ (["bound", "torn", "lost", "opened", "closed", "shut", "full", "away", "call", "close", "one"] : List Str)
def pool : List Str := ["pa", "b", "ring", "cxx", "deep", "a", "zlib", "open", "q", "local"]
theorem pool_len : pool.length = 10 := rfl
theorem pool_nd : pool.Nodup := by decide +kernel
section
variable {P : Program} {w : World} {K : PySem.W.Frag} {mg : Str → Option Value} {base : Heap}
theorem perm_erase {α : Type} : ∀ (l : List α) (i : Nat) (x : α), l[i]? = some x → (x :: l.eraseIdx i).Perm l
  | [], i, x, h => by simp at h
  | y :: l, 0, x, h => by
    simp at h
    subst h
    exact List.Perm.refl _
  | y :: l, i + 1, x, h => by
    have ih := perm_erase l i x (by simpa using h)
    exact (List.Perm.swap y x _).trans (ih.cons y)
/-- so many different names of the pool -/
def tNames : TSm := fun cs ds Q => ∃ (n many : Nat), BoxOk n cs ∧ n < 900000 ∧ ds = [.int many] ∧ many ≤ 10 ∧ ∀ (xs : List Str) cs', xs.length = many → xs.Nodup → (∀ x ∈ xs, x ∈ pool) → BoxOk (n + 10) cs' → Q (.list (xs.map .str)) cs'
theorem ok_names (T : Top K mg) : FnOk P w K mg base (L2.CX P w) 2 T.a_names T.d_names ["_law_box_here", "_law_many"] (spM K 1 tNames) := by
  refine fn_mut T.F_names sc_names rfl fun c A o s H E hr => ?_
  have nd := sc_names.nd
  refine ⟨_, _, (svs_cons (sv_parN0 2 3 rfl nd (en_lst (ea_cons ev_str (ea_cons ev_str (ea_cons ev_str (ea_cons ev_str (ea_cons ev_str (ea_cons ev_str (ea_cons ev_str (ea_cons ev_str (ea_cons ev_str (ea_cons ev_str ea_nil))))))))))))
      (svs_cons (sv_forR T.b_range (ev_name 1) (gv_name 4 nd) (svs_one (sv_append 3 (ev_popAt 2 (ev_callM 0 (ok_take T) (hr.mono (by decide)) T.m_take T.F_take.kp T.B_take (ea_cons (ev_len T.b_len (er_name 2)) ea_nil))))) PassesOwn.never rfl)
      (svs_one (sv_ret (ev_name 3))))), fun cs ds P' hl hT => ?_⟩
  obtain ⟨n, many, hB, hn, rfl, hm, q⟩ := hT
  walk_at "tr"
  refine ⟨by decide, ?_⟩
  unfold wForR
  walk_at "tr"
  refine ⟨by omega, by omega, fun k ρ => ∃ cs' left xs t, ρ = [.own true cs', .val (.int many), .own false (left.map .str), .own false (xs.map .str), t] ∧ (xs ++ left).Perm pool ∧ xs.length = k ∧ BoxOk (n + k) cs', ⟨cs, pool, [], .un, rfl, List.Perm.refl _, rfl, hB⟩, fun k ρ hk hI => ?_, fun ρ hI => ?_⟩
  · obtain ⟨cs', left, xs, t, rfl, hp, hx, hB'⟩ := hI
    have hlen := hp.length_eq
    rw [List.length_append, pool_len] at hlen
    walk_at "tr"
    refine ⟨n + k, left.length, hB', by omega, rfl, by omega, by omega, fun r cs2 hr hB2 => ⟨by omega, by omega, ?_⟩⟩
    have hr' : left[r]? = some left[r] := List.getElem?_eq_getElem hr
    simp only [Int.toNat_natCast]
    rw [List.getElem?_map, hr']
    walk_at "tr"
    refine ⟨by rw [sizeLine_eq]; omega, cs2, left.eraseIdx r, xs ++ [left[r]], .val (.int k), ?_, ?_, by simp [hx], hB2.mono (by omega)⟩
    · simp [map_erase]
    · rw [List.append_assoc]
      exact (List.Perm.append_left xs (perm_erase left r _ hr')).trans hp
  · obtain ⟨cs', left, xs, t, rfl, hp, hx, hB'⟩ := hI
    walk_at "tr"
    have nd2 := (hp.nodup_iff.mpr pool_nd)
    exact q xs cs' (by simpa using hx) (List.nodup_append.mp nd2).1 (fun x hx => hp.mem_iff.mp (List.mem_append_left _ hx)) (hB'.mono (by simp at *; omega))
theorem pool_ok : ∀ x ∈ pool, PyData.strOk x = true ∧ x.length ≤ 8 ∧ x ∈ words := by decide +kernel
/-- up to so many of some texts -/
def tSome : TSm := fun cs ds Q => ∃ (n most : Nat) (xs : List Str) (b : Bool), BoxOk n cs ∧ n < 900000 ∧ ds = [seqOf b (xs.map .str), .int most] ∧ most ≤ 8 ∧ xs.length ≤ 100 ∧ (∀ x ∈ xs, PyData.strOk x = true) ∧
  ∀ (ys : List Str) cs', ys.length ≤ most → (∀ y ∈ ys, y ∈ xs) → BoxOk (n + 10) cs' → Q (.list (ys.map .str)) cs'
theorem ok_some (T : Top K mg) : FnOk P w K mg base (L2.CX P w) 2 T.a_some T.d_some ["_law_box_here", "_law_some_here", "_law_most"] (spM K 2 tSome) := by
  refine fn_mut T.F_some sc_some rfl fun c A o s H E hr => ?_
  have nd := sc_some.nd
  have hu := hr.units
  refine ⟨_, _, (svs_cons (sv_parN0 3 4 rfl nd (en_list T.b_list (ea_cons (ev_name 1) ea_nil)))
      (svs_cons (sv_forR T.b_range (ev_callM 0 (ok_take T) (hr.mono (by decide)) T.m_take T.F_take.kp T.B_take (ea_cons (ev_add (ev_name 2) ev_int) ea_nil)) (gv_name 5 nd) (svs_one (sv_if (et_neO hu 3 (en_lst ea_nil).ev) (svs_one (sv_append 4 (ev_popAt 3 (ev_callM 0 (ok_take T) (hr.mono (by decide)) T.m_take T.F_take.kp T.B_take (ea_cons (ev_len T.b_len (er_name 3)) ea_nil))))) svs_nil)) PassesOwn.never rfl)
      (svs_one (sv_ret (ev_name 4))))), fun cs ds P' hl hT => ?_⟩
  obtain ⟨n, most, xs, b, hB, hn, rfl, hm, hxl, hok, q⟩ := hT
  have key : ∀ z : PyData, (z = .list (xs.map .str) ∨ z = .tuple (xs.map .str)) → gList [z] fun es => es = xs.map PyData.str := by
    rintro z (rfl | rfl) <;> rfl
  cases b
  all_goals
    walk_at "tr"
    unfold wForR
    walk_at "tr"
    refine ⟨n, most + 1, hB, by omega, by simp, by omega, by omega, fun many cs1 hmany hB1 => ⟨by omega, by omega, fun k ρ => ∃ cs' left ys t t0, ρ = [.own true cs', t0, .val (.int most), .own false (left.map .str), .own false (ys.map .str), t] ∧ (∀ y ∈ left, y ∈ xs) ∧ (∀ y ∈ ys, y ∈ xs) ∧ left.length ≤ 100 ∧ ys.length ≤ k ∧ BoxOk (n + 1 + k) cs', ⟨cs1, xs, [], .un, _, rfl, fun _ h => h, (by simp), hxl, Nat.le_refl _, hB1⟩, fun k ρ hk hI => ?_, fun ρ hI => ?_⟩⟩
    · obtain ⟨cs', left, ys, t, t0, rfl, h1, h2, h3, h4, hB'⟩ := hI
      walk_at "tr"
      have g1 : Good 1 (.list (left.map PyData.str)) := good_list fun d hd => by
        obtain ⟨x, hx, rfl⟩ := List.mem_map.mp hd
        exact good_str (hok x (h1 x hx))
      refine ⟨by decide, g1.shaped (by decide), (good_list (n := 0) (ds := []) fun d hd => (by simp at hd)).shaped (by decide), ?_⟩
      cases left with
      | nil =>
        rw [show (!PyData.eqv (.list ([].map PyData.str)) (.list [])) = false by simp [eqv_list, eqvAll_nil]]
        walk_at "tr"
        exact ⟨cs', [], ys, _, _, rfl, h1, h2, h3, by omega, hB'.mono (by omega)⟩
      | cons x0 left =>
        rw [show (!PyData.eqv (.list ((x0 :: left).map PyData.str)) (.list [])) = true by simp [eqv_list, eqvAll_cn]]
        generalize hlf : x0 :: left = lf at *
        have hpos : 0 < lf.length := by rw [← hlf]; simp
        walk_at "tr"
        refine ⟨n + 1 + k, lf.length, hB', by omega, rfl, hpos, by omega, fun r cs2 hr hB2 => ⟨by omega, by omega, ?_⟩⟩
        have hr' : lf[r]? = some lf[r] := List.getElem?_eq_getElem hr
        simp only [Int.toNat_natCast]
        rw [List.getElem?_map, hr']
        walk_at "tr"
        refine ⟨by rw [sizeLine_eq]; omega, cs2, lf.eraseIdx r, ys ++ [lf[r]], .val (.int k), t0, ?_, fun y hy => h1 y (List.mem_of_mem_eraseIdx hy), fun y hy => ?_, ?_, by simp; omega, hB2.mono (by omega)⟩
        · simp [map_erase]
        · rcases List.mem_append.mp hy with hy | hy
          · exact h2 y hy
          · rw [List.mem_singleton.mp hy]
            exact h1 _ (List.getElem_mem hr)
        · have := List.length_eraseIdx_le lf r
          omega
    · obtain ⟨cs', left, ys, t, t0, rfl, h1, h2, h3, h4, hB'⟩ := hI
      walk_at "tr"
      exact q ys cs' (by simp at h4; omega) h2 (hB'.mono (by simp at *; omega))
end
end K12
set_option Elab.async false
set_option linter.all false
set_option maxRecDepth 100000
set_option maxHeartbeats 4000000
namespace K12
open PySem PySem.Spec PyProof.Rows L2 Tr
variable [Tabbed]
local macro_rules | `(tactic| walk_at "tr") => `(tactic| simp only [Tr.Later, wRet, wRetN, wExpr, wAsg, wSet, wSetN, wPar, wParV0, wParN0, wAugI, wgNil, wgCons, wCall, wCall0, wCallM, wCallN, wIxO, wFn, wFn1, wFnN, wTuple1, wAppend, wPopAt, wSetO, wNeO, wIsN, wTup, wLst, wYes, wRep, wSliceL, wSliceT, wRev, wSortedSet, ownAt, asInt, asNat, asList, asTuple, someOf, at0, at1, at2, at3, wIf, wB, wOp, wOpN, wName, wLook, wN, wC, wAnd, wOr, wNot, wAndV, wOrV, wNotV, wSeq, wNext, wIfS, wNil, wCons, wPart, wgSeq, gvName, wTurn, wipeE, gI, gI0, gEq, gNe, gLen, gIx, gInt, gAbs, gMin2, gList, gTup1, gAll, gCatL, gCatT, isNone, startE, startM, List.map_cons, List.map_nil, List.length_cons, List.length_nil, List.cons_append, List.nil_append, List.getElem?_cons_zero, List.getElem?_cons_succ, List.set_cons_zero, List.set_cons_succ, List.replicate, List.length_map, if_true, if_false, Bool.false_eq_true, reduceIte, List.mem_cons, List.not_mem_nil, or_false, forall_eq, forall_eq_or_imp, false_implies, implies_true, true_and, and_true, Option.bind_some, Option.map_some, Option.map_none, Int.reduceLT, Int.reduceLE, Int.reduceToNat, Int.toNat_zero, Int.toNat_one, Int.toNat_natCast, Nat.reduceAdd, Nat.reduceLT, decide_true, List.set, Int.add_zero, Int.zero_add])
/-- a text that is short -/
def okS (x : Str) : Prop := PyData.strOk x = true ∧ x.length ≤ 8 ∧ x ∈ words
def useD (u : (Str × Str) × Bool) : PyData := .tuple [.str u.1.1, .str u.1.2, .bool u.2]
section
variable {P : Program} {w : World} {K : PySem.W.Frag} {mg : Str → Option Value} {base : Heap}
def tPairs : TSm := fun cs ds Q => ∃ (n most : Nat), BoxOk n cs ∧ n < 900000 ∧ ds = [.int most] ∧ most ≤ 3 ∧ ∀ (ps : List (Str × Str)) cs', ps.Pairwise PairLt → (∀ p ∈ ps, okS p.1 ∧ okS p.2) → ps.length ≤ 3 → BoxOk (n + 10) cs' → Q (.list (ps.map duoD)) cs'
theorem ok_pairs (T : Top K mg) : FnOk P w K mg base (L2.CX P w) 3 T.a_pairs T.d_pairs ["_law_box_here", "_law_most"] (spM K 1 tPairs) := by
  refine fn_mut T.F_pairs sc_pairs rfl fun c A o s H E hr => ?_
  have nd := sc_pairs.nd
  have hu : (A.deeper (envOfC "_law_pairs" (defScope s_pairs) s.heap.objs.size T.a_pairs c)).units + 100 < cLine := by have := hr.un; omega
  refine ⟨_, _, (svs_cons (sv_setN 2 nd (en_lst ea_nil))
      (svs_cons (sv_forR T.b_range (ev_callM 0 (ok_take T) (hr.mono (by decide)) T.m_take T.F_take.kp T.B_take (ea_cons (ev_add (ev_name 1) ev_int) ea_nil)) (gv_name 3 nd) (svs_one (sv_append 2 (ev_tup (ea_cons (ev_callM 0 (ok_pick T) (hr.mono (by decide)) T.m_pick T.F_pick.kp T.B_pick (ea_cons (en_lst (ea_cons ev_str (ea_cons ev_str (ea_cons ev_str (ea_cons ev_str ea_nil))))).ev ea_nil)) (ea_cons (ev_callM 0 (ok_pick T) (hr.mono (by decide)) T.m_pick T.F_pick.kp T.B_pick (ea_cons (en_lst (ea_cons ev_str (ea_cons ev_str (ea_cons ev_str (ea_cons ev_str ea_nil))))).ev ea_nil)) ea_nil))))) PassesOwn.never rfl)
      (svs_one (sv_ret (en_sortedSet hu rfl T.b_sorted T.b_set (ev_name 2)).ev)))), fun cs ds P' hl hT => ?_⟩
  obtain ⟨n, most, hB, hn, rfl, hm, q⟩ := hT
  walk_at "tr"
  refine ⟨by decide, ?_⟩
  unfold wForR
  walk_at "tr"
  refine ⟨n, most + 1, hB, by omega, by simp, by omega, by omega, fun many cs1 hmany hB1 => ⟨by omega, by omega, fun k ρ => ∃ (cs' : List PyData) (ps : List (Str × Str)) (t : Sl), ρ = [.own true cs', .val (.int most), .own false (ps.map duoD), t] ∧ ps.length = k ∧ (∀ p ∈ ps, okS p.1 ∧ okS p.2) ∧ BoxOk (n + 1 + 2 * k) cs', ⟨cs1, [], .un, rfl, rfl, (by simp), hB1⟩, fun k ρ hk hI => ?_, fun ρ hI => ?_⟩⟩
  · obtain ⟨cs', ps, t, rfl, h1, h2, hB'⟩ := hI
    walk_at "tr"
    refine ⟨by decide, n + 1 + 2 * k, _, false, hB', by omega, rfl, by decide, by decide, fun x cs2 hx hB2 => ⟨by decide, n + 1 + 2 * k + 1, _, false, hB2, by omega, rfl, by decide, by decide, fun y cs3 hy hB3 => ⟨by decide, by rw [h1, sizeLine_eq]; omega, ?_⟩⟩⟩
    obtain ⟨a, rfl, ha⟩ : ∃ a : Str, x = .str a ∧ okS a := by
      simp only [List.mem_cons, List.not_mem_nil, or_false] at hx
      rcases hx with rfl | rfl | rfl | rfl <;> exact ⟨_, rfl, by decide +kernel, by decide +kernel, by decide +kernel⟩
    obtain ⟨b, rfl, hb⟩ : ∃ b : Str, y = .str b ∧ okS b := by
      simp only [List.mem_cons, List.not_mem_nil, or_false] at hy
      rcases hy with rfl | rfl | rfl | rfl <;> exact ⟨_, rfl, by decide +kernel, by decide +kernel, by decide +kernel⟩
    refine ⟨cs3, ps ++ [(a, b)], .val (.int k), by simp [duoD], by simp [h1], fun p hp => ?_, hB3.mono (by omega)⟩
    rcases List.mem_append.mp hp with hp | hp
    · exact h2 p hp
    · rw [List.mem_singleton.mp hp]
      exact ⟨ha, hb⟩
  · obtain ⟨cs', ps, t, rfl, h1, h2, hB'⟩ := hI
    walk_at "tr"
    have h1' : ps.length ≤ 3 := by simp at h1; omega
    refine ⟨ps, rfl, by omega, fun p hp => ⟨(h2 p hp).1.1, (h2 p hp).2.1⟩, fun qs hq hmem hle => ?_⟩
    exact q qs cs' hq (fun p hp => h2 p ((hmem p).mp hp)) (by omega) (hB'.mono (by simp at *; omega))
end
end K12
set_option Elab.async false
set_option linter.all false
set_option maxRecDepth 100000
set_option maxHeartbeats 4000000
namespace K12
open PySem PySem.Spec PyProof.Rows L2 Tr
variable [Tabbed]
local macro_rules | `(tactic| walk_at "tr") => `(tactic| simp only [Tr.Later, wRet, wRetN, wExpr, wAsg, wSet, wSetN, wPar, wParV0, wParN0, wAugI, wgNil, wgCons, wCall, wCall0, wCallM, wCallN, wIxO, wFn, wFn1, wFnN, wTuple1, wAppend, wPopAt, wSetO, wNeO, wIsN, wTup, wLst, wYes, wRep, wSliceL, wSliceT, wRev, ownAt, asInt, asNat, asList, asTuple, someOf, at0, at1, at2, at3, wIf, wB, wOp, wOpN, wName, wLook, wN, wC, wAnd, wOr, wNot, wAndV, wOrV, wNotV, wSeq, wNext, wIfS, wNil, wCons, wPart, wgSeq, gvName, wTurn, wipeE, gI, gI0, gEq, gNe, gLen, gIx, gInt, gAbs, gMin2, gList, gTup1, gAll, gCatL, gCatT, isNone, startE, startM, List.map_cons, List.map_nil, List.length_cons, List.length_nil, List.cons_append, List.nil_append, List.getElem?_cons_zero, List.getElem?_cons_succ, List.set_cons_zero, List.set_cons_succ, List.replicate, List.length_map, if_true, if_false, Bool.false_eq_true, reduceIte, List.mem_cons, List.not_mem_nil, or_false, forall_eq, forall_eq_or_imp, false_implies, implies_true, true_and, and_true, Option.bind_some, Option.map_some, Option.map_none, Int.reduceLT, Int.reduceLE, Int.reduceToNat, Int.toNat_zero, Int.toNat_one, Int.toNat_natCast, Nat.reduceAdd, Nat.reduceLT, decide_true, List.set, Int.add_zero, Int.zero_add])
structure Lib where
  own : Str
  needs : List Str
  defs : List (Str × Str)
  uses : List ((Str × Str) × Bool)
def Lib.d (l : Lib) : PyData := .tuple [.str l.own, .tuple (l.needs.map .str), .tuple (l.defs.map duoD), .tuple (l.uses.map useD)]
/-- a library as it is drawn -/
structure Lib.Ok (l : Lib) : Prop where
  own : okS l.own
  needs : (∀ x ∈ l.needs, okS x) ∧ l.needs.length ≤ 10
  defs : l.defs.Pairwise PairLt ∧ (∀ p ∈ l.defs, okS p.1 ∧ okS p.2) ∧ l.defs.length ≤ 4
  uses : (∀ u ∈ l.uses, okS u.1.1 ∧ okS u.1.2) ∧ l.uses.length ≤ 3
section
variable {P : Program} {w : World} {K : PySem.W.Frag} {mg : Str → Option Value} {base : Heap}
def tLib : TSm := fun cs ds Q => ∃ (n : Nat) (own : Str) (others : List Str) (b : Bool), BoxOk n cs ∧ n < 800000 ∧ ds = [.str own, .list (others.map .str), .bool b] ∧ okS own ∧ (∀ x ∈ others, okS x) ∧ others.length ≤ 10 ∧
  ∀ (l : Lib) cs', l.own = own → l.Ok → (∀ x ∈ l.needs, x ∈ others) → BoxOk (n + 40) cs' → Q l.d cs'
theorem ok_lib (T : Top K mg) : FnOk P w K mg base (L2.CX P w) 4 T.a_lib T.d_lib ["_law_box_here", "_law_own", "_law_others", "_law_is_main"] (spM K 3 tLib) := by
  refine fn_mut T.F_lib sc_lib rfl fun c A o s H E hr => ?_
  have nd := sc_lib.nd
  have hu := hr.units
  refine ⟨_, _, (svs_cons (sv_set 4 nd (ev_tuple1 T.b_tuple (ev_callM 0 (ok_some T) (hr.mono (by decide)) T.m_some T.F_some.kp T.B_some (ea_cons (en_lc (tt := tTest (tOp (rNeD K) _ _)) [("_law_one", 5)] rfl nd (ev_name 2) (blkOk_by (N := N_lib) (sc := defScope s_lib) (by decide +kernel)) (fun _ _ _ _ _ => (gv_name 5 nd)) (fun _ _ _ _ _ => ets_one (et_ne hu (ev_name 5) (ev_name 1))) (fun _ _ _ _ _ => (ev_name 5)) (by decide)).ev (ea_cons ev_int ea_nil)))))
      (svs_cons (sv_set 6 nd (ev_tuple1 T.b_tuple (ev_callM 0 (ok_pairs T) (hr.mono (by decide)) T.m_pairs T.F_pairs.kp T.B_pairs (ea_cons (ev_if (et_val (ev_name 3)) ev_int ev_int) ea_nil))))
      (svs_cons (sv_set 7 nd (ev_tuple1 T.b_tuple (en_lc (te := tOp (rCatA K) _ (tTup (tCons (tOp (rEqD K) (tCall (spM K 1 tTake) [] E0 _) _) tNil))) [("_law_pair", 8)] rfl nd (ev_callM 0 (ok_pairs T) (hr.mono (by decide)) T.m_pairs T.F_pairs.kp T.B_pairs (ea_cons ev_int ea_nil)) (blkOk_by (N := N_lib) (sc := defScope s_lib) (by decide +kernel)) (fun _ _ _ _ _ => (gv_name 8 nd)) (fun _ _ _ _ _ => ets_nil) (fun _ _ _ _ _ => (ev_catT (ev_name 8) (ev_tup (ea_cons (ev_eq hu (ev_callM 0 (ok_take T) (hr.mono (by decide)) T.m_take T.F_take.kp T.B_take (ea_cons ev_int ea_nil)) ev_int) ea_nil)))) (by decide)).ev))
      (svs_one (sv_ret (ev_tup (ea_cons (ev_name 1) (ea_cons (ev_name 4) (ea_cons (ev_name 6) (ea_cons (ev_name 7) ea_nil)))))))))), fun cs ds P' hl hT => ?_⟩
  obtain ⟨n, own, others, b, hB, hn, rfl, ho, hoth, hol, q⟩ := hT
  cases b
  all_goals
    walk_at "tr"
    unfold wLc
    refine ⟨false, ?_⟩
    walk_at "tr"
    refine ⟨others.map .str, rfl, fun k acc ρ => ∃ ys : List Str, acc = ys.map .str ∧ (∀ y ∈ ys, y ∈ others) ∧ ys.length ≤ k ∧ ρ = [.own true cs, .val (.str own), .val (.list (others.map .str)), .val (.bool _), .un, .un, .un, .un, .un], ⟨[], rfl, (by simp), Nat.le_refl _, rfl⟩, fun k x acc ρ hx hI => ?_, fun acc ρ hI => ?_⟩
    · obtain ⟨ys, rfl, h1, h2, rfl⟩ := hI
      obtain ⟨y, rfl, hy⟩ : ∃ y : Str, x = .str y ∧ y ∈ others := by
        have hm := List.mem_of_getElem? hx
        obtain ⟨y, hy, e⟩ := List.mem_map.mp hm
        exact ⟨y, e.symm, hy⟩
      have hk : k < others.length := by simpa using (List.getElem?_eq_some_iff.mp hx).1
      walk_at "tr"
      refine ⟨(good_str (n := 0) (hoth y hy).1).shaped (by decide), (good_str (n := 0) ho.1).shaped (by decide), ?_⟩
      rw [eqv_str]
      by_cases e : y = own
      · rw [if_neg (by simp [e])]
        exact ⟨ys, rfl, h1, by omega⟩
      · rw [if_pos (by simp [e])]
        refine ⟨by rw [sizeLine_eq]; omega, ys ++ [y], by simp, fun z hz => ?_, by simp; omega⟩
        rcases List.mem_append.mp hz with hz | hz
        · exact h1 z hz
        · rw [List.mem_singleton.mp hz]
          exact hy
    · obtain ⟨ys, rfl, h1, h2, rfl⟩ := hI
      walk_at "tr"
      refine ⟨n, 2, ys, false, hB, by omega, rfl, by decide, by simp at h2; omega, fun y hy => (hoth y (h1 y hy)).1, fun needs cs1 hnl hnm hB1 => ?_⟩
      refine ⟨n + 10, _, hB1, by omega, rfl, by decide, fun defs cs2 d1 d2 d3 hB2 => ?_⟩
      · refine ⟨false, ?_⟩
        try (walk_at "tr")
        refine ⟨n + 20, 3, hB2, by omega, rfl, by decide, fun ps cs3 u1 u2 u3 hB3 => ?_⟩
        refine ⟨ps.map duoD, rfl, fun k acc ρ => ∃ (us : List ((Str × Str) × Bool)) (cs4 : List PyData), acc = us.map useD ∧ (∀ u ∈ us, okS u.1.1 ∧ okS u.1.2) ∧ us.length ≤ k ∧ BoxOk (n + 30 + k) cs4 ∧ ρ = [.own true cs4, .val (.str own), .val (.list (others.map .str)), .val (.bool _), .val (.tuple (needs.map .str)), .un, .val (.tuple (defs.map duoD)), .un, .un], ⟨[], cs3, rfl, (by simp), Nat.le_refl _, hB3, rfl⟩, fun k x acc ρ hx hI => ?_, fun acc ρ hI => ?_⟩
        · obtain ⟨us, cs4, rfl, g1, g2, hB4, rfl⟩ := hI
          obtain ⟨p, rfl, hp⟩ : ∃ p : Str × Str, x = duoD p ∧ p ∈ ps := by
            have hm := List.mem_of_getElem? hx
            obtain ⟨y, hy, e⟩ := List.mem_map.mp hm
            exact ⟨y, e.symm, hy⟩
          have hk : k < ps.length := by simpa using (List.getElem?_eq_some_iff.mp hx).1
          walk_at "tr"
          refine ⟨n + 30 + k, 4, hB4, by omega, rfl, by decide, by decide, fun r cs5 hr5 hB5 => ⟨rfl, rfl, by decide, ?_⟩⟩
          simp only [duoD]
          walk_at "tr"
          refine ⟨by decide, by rw [sizeLine_eq]; omega, us ++ [(p, PyData.eqv (.int r) (.int 0))], cs5, by simp [useD], fun u hu' => ?_, by simp; omega, hB5.mono (by omega), rfl⟩
          rcases List.mem_append.mp hu' with hu' | hu'
          · exact g1 u hu'
          · rw [List.mem_singleton.mp hu']
            exact u2 p hp
        · obtain ⟨us, cs4, rfl, g1, g2, hB4, rfl⟩ := hI
          walk_at "tr"
          have g2' : us.length ≤ 3 := by simp at g2; omega
          exact ⟨by decide, q ⟨own, needs, defs, us⟩ cs4 rfl ⟨ho, ⟨fun x hx => hoth x (h1 x (hnm x hx)), by simpa using (by omega : needs.length ≤ 10)⟩, ⟨d1, d2, Nat.le_succ_of_le d3⟩, ⟨g1, g2'⟩⟩ (fun x hx => h1 x (hnm x hx)) (hB4.mono (by simp at *; omega))⟩
end
end K12
set_option Elab.async false
set_option linter.all false
set_option maxRecDepth 100000
set_option maxHeartbeats 4000000
namespace K12
open PySem PySem.Spec PyProof.Rows L2 Tr
variable [Tabbed]
local macro_rules | `(tactic| walk_at "tr") => `(tactic| simp only [wRet, wRetN, wExpr, wAsg, wSet, wSetN, wPar, wParV0, wParN0, wAugI, wgNil, wgCons, wCall, wCall0, wCallM, wCallN, wIxO, wFn, wFn1, wFnN, wTuple1, wAppend, wPopAt, wSetO, wNeO, wIsN, wTup, wLst, wYes, wRep, wSliceL, wSliceT, wRev, ownAt, asInt, asNat, asList, asTuple, someOf, at0, at1, at2, at3, wIf, wB, wOp, wOpN, wName, wLook, wN, wC, wAnd, wOr, wNot, wAndV, wOrV, wNotV, wSeq, wNext, wIfS, wNil, wCons, wPart, wgSeq, gvName, wTurn, wipeE, gI, gI0, gEq, gNe, gLen, gIx, gInt, gAbs, gMin2, gList, gTup1, gAll, gCatL, gCatT, isNone, startE, startM, List.map_cons, List.map_nil, List.length_cons, List.length_nil, List.cons_append, List.nil_append, List.getElem?_cons_zero, List.getElem?_cons_succ, List.set_cons_zero, List.set_cons_succ, List.replicate, List.length_map, if_true, if_false, Bool.false_eq_true, reduceIte, List.mem_cons, List.not_mem_nil, or_false, forall_eq, forall_eq_or_imp, false_implies, implies_true, true_and, and_true, Option.bind_some, Option.map_some, Option.map_none, Int.reduceLT, Int.reduceLE, Int.reduceToNat, Int.toNat_zero, Int.toNat_one, Int.toNat_natCast, Nat.reduceAdd, Nat.reduceLT, decide_true, List.set, Int.add_zero, Int.zero_add])
structure Plot where
  libs : List Lib
  early : List Str
  doors : List (Str × Str)
def Plot.d (p : Plot) : PyData := .tuple [.tuple (p.libs.map Lib.d), .tuple (p.early.map .str), .tuple (p.doors.map duoD)]
/-- a program as it is drawn -/
structure Plot.Ok (p : Plot) : Prop where
  libs : (∀ l ∈ p.libs, l.Ok ∧ l.own ∈ pool) ∧ p.libs.length ≤ 10 ∧ (p.libs.map (·.own)).Nodup ∧ 0 < p.libs.length
  early : (∀ x ∈ p.early, okS x) ∧ p.early.length ≤ 10
  doors : (∀ x ∈ p.doors, okS x.1 ∧ okS x.2) ∧ p.doors.length ≤ 10
  need : ∀ l ∈ p.libs, ∀ x ∈ l.needs, x ∈ p.libs.map (·.own)
  soon : ∀ x ∈ p.early, x ∈ p.libs.map (·.own)
  gate : ∀ d ∈ p.doors, d.1 ∈ p.libs.map (·.own)
  any : 0 < p.doors.length
section
variable {P : Program} {w : World} {K : PySem.W.Frag} {mg : Str → Option Value} {base : Heap}
def tProgram : TSm := fun cs ds Q => ∃ (n most gates : Nat), BoxOk n cs ∧ n < 700000 ∧ ds = [.int most, .int gates] ∧ 0 < most ∧ most ≤ 8 ∧ 0 < gates ∧ gates ≤ 8 ∧ ∀ (p : Plot) cs', p.Ok → BoxOk (n + 600) cs' → Q p.d cs'
theorem ok_program (T : Top K mg) : FnOk P w K mg base (L2.CX P w) 5 T.a_program T.d_program ["_law_box_here", "_law_most", "_law_gates"] (spM K 2 tProgram) := by
  refine fn_mut T.F_program sc_program rfl fun c A o s H E hr => ?_
  have nd := sc_program.nd
  have hu := hr.units
  have hu5 : (A.deeper (envOfC "_law_program" (defScope s_program) s.heap.objs.size T.a_program c)).units + 65 < cLine := by have := hr.un; omega
  refine ⟨_, _, (svs_cons (sv_set 3 nd (ev_callM 0 (ok_names T) (hr.mono (by decide)) T.m_names T.F_names.kp T.B_names (ea_cons (ev_add ev_int (ev_callM 0 (ok_take T) (hr.mono (by decide)) T.m_take T.F_take.kp T.B_take (ea_cons (ev_name 1) ea_nil))) ea_nil)))
      (svs_cons (sv_parV0 4 5 rfl nd (en_slice (ev_name 3) (eo_some ev_int) eo_none).ev)
      (svs_cons (sv_for (ev_name 3) (gv_name 6 nd) (svs_one (sv_append 5 (ev_callM 0 (ok_lib T) (hr.mono (by decide)) T.m_lib T.F_lib.kp T.B_lib (ea_cons (ev_name 6) (ea_cons (ev_name 4) (ea_cons (ev_eq hu (ev_name 6) (ev_ix (ev_name 3) ev_int)) ea_nil)))))) PassesOwn.never rfl)
      (svs_cons (sv_set 7 nd (en_lst ea_nil).ev)
      (svs_cons (sv_forR T.b_range (ev_add ev_int (ev_callM 0 (ok_take T) (hr.mono (by decide)) T.m_take T.F_take.kp T.B_take (ea_cons (ev_name 2) ea_nil))) (gv_name 8 nd) (svs_cons (sv_set 9 nd (ev_tup (ea_cons (ev_callM 0 (ok_pick T) (hr.mono (by decide)) T.m_pick T.F_pick.kp T.B_pick (ea_cons (ev_name 4) ea_nil)) (ea_cons (ev_callM 0 (ok_pick T) (hr.mono (by decide)) T.m_pick T.F_pick.kp T.B_pick (ea_cons (en_lst (ea_cons ev_str (ea_cons ev_str (ea_cons ev_str (ea_cons ev_str ea_nil))))).ev ea_nil)) ea_nil))))
      (svs_one (sv_set 7 nd (en_catL (ev_name 7) (en_rep (en_lst (ea_cons (ev_name 9) ea_nil)) (ev_int1 T.b_int (ea_cons (ev_notIn hu5 (ev_name 9) (ev_name 7)) ea_nil))).ev).ev))) PassesOwn.never rfl)
      (svs_cons (sv_set 10 nd (ev_if (et_eq hu (ev_callM 0 (ok_take T) (hr.mono (by decide)) T.m_take T.F_take.kp T.B_take (ea_cons ev_int ea_nil)) ev_int) (ev_callM 0 (ok_some T) (hr.mono (by decide)) T.m_some T.F_some.kp T.B_some (ea_cons (ev_name 4) (ea_cons (ev_add ev_int (ev_int1 T.b_int (ea_cons (ev_eq hu (ev_callM 0 (ok_take T) (hr.mono (by decide)) T.m_take T.F_take.kp T.B_take (ea_cons ev_int ea_nil)) ev_int) ea_nil))) ea_nil))) (en_lst ea_nil).ev))
      (svs_one (sv_ret (ev_tup (ea_cons (ev_tuple1 T.b_tuple (ev_name 5)) (ea_cons (ev_tuple1 T.b_tuple (ev_name 10)) (ea_cons (ev_tuple1 T.b_tuple (ev_name 7)) ea_nil)))))))))))), fun cs ds P' hl hT => ?_⟩
  obtain ⟨n, most, gates, hB, hn, rfl, hm0, hm, hg0, hg, q⟩ := hT
  walk_at "tr"
  refine ⟨n, most, hB, by omega, rfl, hm0, by omega, fun many cs1 hmany hB1 => ?_⟩
  refine ⟨n + 1, 2 + many, hB1, by omega, by simp, by omega, fun xs cs2 hxl hnd hpool hB2 => ?_⟩
  obtain ⟨x0, others, rfl⟩ : ∃ x0 others, xs = x0 :: others := by
    cases xs with
    | nil => simp at hxl; omega
    | cons x0 others => exact ⟨x0, others, rfl⟩
  have okx : ∀ x ∈ x0 :: others, okS x := fun x hx => pool_ok x (hpool x hx)
  have hol : others.length = 1 + many := by simp at hxl; omega
  have good1 : ∀ l : List Str, (∀ x ∈ l, okS x) → Good 1 (.list (l.map PyData.str)) := fun l hl => good_list fun d hd => by
    obtain ⟨x, hx, rfl⟩ := List.mem_map.mp hd
    exact good_str (hl x hx).1
  refine Tr.Later.now ?_
  walk_at "tr"
  rw [show Tr.cutD (.str x0 :: others.map PyData.str) (some 1) none = others.map PyData.str by
    show Tr.cutD _ (some ((1 : Nat) : Int)) none = _
    unfold Tr.cutD
    rw [HT.sIx_none, HT.sIx_nat, List.length_cons, List.length_map, Nat.min_eq_left (by omega), show others.length + 1 - 1 = others.length by omega]
    show (others.map PyData.str).take others.length = _
    exact List.take_of_length_le (by rw [List.length_map]; exact Nat.le_refl _)]
  refine Tr.Later.now ?_
  walk_at "tr"
  unfold wFor
  refine ⟨false, ?_⟩
  walk_at "tr"
  refine ⟨(x0 :: others).map .str, rfl, fun k ρ => ∃ (cs' : List PyData) (libs : List Lib) (t : Sl), ρ = [.own true cs', .val (.int most), .val (.int gates), .val (.list ((x0 :: others).map .str)), .val (.list (others.map .str)), .own false (libs.map Lib.d), t, .un, .un, .un, .un] ∧ libs.map (·.own) = (x0 :: others).take k ∧ (∀ l ∈ libs, l.Ok ∧ ∀ x ∈ l.needs, x ∈ others) ∧ BoxOk (n + 11 + 40 * k) cs', ⟨cs2, [], .un, rfl, rfl, (by simp), hB2.mono (by omega)⟩, fun k x ρ hx hI => ?_, fun ρ hI => ?_⟩
  · obtain ⟨cs', libs, t, rfl, h1, h2, hB'⟩ := hI
    obtain ⟨y, rfl, hy⟩ : ∃ y : Str, x = .str y ∧ (x0 :: others)[k]? = some y := by
      rw [List.getElem?_map] at hx
      cases e : (x0 :: others)[k]? with
      | none => rw [e] at hx; cases hx
      | some y => rw [e] at hx; exact ⟨y, (Option.some.inj hx).symm, rfl⟩
    have hk : k < (x0 :: others).length := (List.getElem?_eq_some_iff.mp hy).1
    have hk10 : k < 10 := by simp at hk; omega
    have hlen : libs.length = k := by
      have := congrArg List.length h1
      rw [List.length_map, List.length_take] at this
      omega
    have my := List.mem_of_getElem? hy
    refine Tr.Later.now ?_
    walk_at "tr"
    refine ⟨(good_str (n := 0) (okx y my).1).shaped (by decide), (good_str (n := 0) (okx x0 (.head _)).1).shaped (by decide), n + 11 + 40 * k, y, others, _, hB', by omega, rfl, okx y my, fun x hx => okx x (.tail _ hx), by omega, fun l cs3 e1 e2 e3 hB3 => ⟨by rw [hlen, sizeLine_eq]; omega, cs3, libs ++ [l], _, by simp; rfl, ?_, fun l2 hl2 => ?_, hB3.mono (by omega)⟩⟩
    · rw [List.map_append, h1, take_one hy, List.map_singleton, e1]
    · rcases List.mem_append.mp hl2 with z | z
      · exact h2 l2 z
      · rw [List.mem_singleton.mp z]
        exact ⟨e2, e3⟩
  · obtain ⟨cs3, libs, t, rfl, h1, h2, hB3⟩ := hI
    rw [List.length_map, List.take_length] at h1
    have hll : libs.length = 2 + many := by
      have := congrArg List.length h1
      rw [List.length_map, hxl] at this
      exact this
    replace hB3 : BoxOk (n + 411) cs3 := hB3.mono (by rw [List.length_map, hxl]; omega)
    refine Tr.Later.now ?_
    walk_at "tr"
    refine ⟨by decide, ?_⟩
    refine Tr.Later.now ?_
    walk_at "tr"
    unfold wForR
    walk_at "tr"
    refine ⟨n + 411, gates, hB3, by omega, rfl, hg0, by omega, fun turns cs4 hturns hB4 => ⟨by omega, by omega, fun k ρ => ∃ (cs' : List PyData) (doors : List (Str × Str)) (t8 t9 : Sl), ρ = [.own true cs', .val (.int most), .val (.int gates), .val (.list ((x0 :: others).map .str)), .val (.list (others.map .str)), .own false (libs.map Lib.d), t, .val (.list (doors.map duoD)), t8, t9, .un] ∧ doors.length ≤ k ∧ (∀ x ∈ doors, (okS x.1 ∧ okS x.2) ∧ x.1 ∈ others) ∧ (0 < k → 0 < doors.length) ∧ BoxOk (n + 412 + 2 * k) cs', ⟨cs4, [], .un, .un, rfl, Nat.le_refl _, (by simp), (fun z => absurd z (by decide)), hB4⟩, fun k ρ hk hI => ?_, fun ρ hI => ?_⟩⟩
    · obtain ⟨cs', doors, t8, t9, rfl, g1, g2, g0, hB'⟩ := hI
      refine Tr.Later.now ?_
      walk_at "tr"
      refine ⟨n + 412 + 2 * k, _, false, hB', by omega, rfl, by rw [List.length_map]; omega, by rw [List.length_map]; omega, fun x cs6 hx hB6 => ⟨by decide, n + 412 + 2 * k + 1, _, false, hB6, by omega, rfl, by decide, by decide, fun y cs7 hy hB7 => ⟨by decide, ?_⟩⟩⟩
      obtain ⟨a, rfl, ha, hao⟩ : ∃ a : Str, x = .str a ∧ okS a ∧ a ∈ others := by
        obtain ⟨a, m, e⟩ := List.mem_map.mp hx
        exact ⟨a, e.symm, okx a (.tail _ m), m⟩
      obtain ⟨b, rfl, hb⟩ : ∃ b : Str, y = .str b ∧ okS b := by
        simp only [List.mem_cons, List.not_mem_nil, or_false] at hy
        rcases hy with rfl | rfl | rfl | rfl <;> exact ⟨_, rfl, by decide +kernel, by decide +kernel, by decide +kernel⟩
      have good2 : ∀ p : Str × Str, okS p.1 ∧ okS p.2 → Good 1 (duoD p) := fun p hp => good_tuple fun d hd => by
        simp only [List.mem_cons, List.not_mem_nil, or_false] at hd
        rcases hd with rfl | rfl
        · exact good_str hp.1.1
        · exact good_str hp.2.1
      refine Tr.Later.now ?_
      walk_at "tr"
      refine ⟨by decide, false, doors.map duoD, rfl, (good2 (a, b) ⟨ha, hb⟩).shaped (by decide), (good_list (n := 1) fun d hd => ?_).shaped (by decide), ?_⟩
      · obtain ⟨p, m, rfl⟩ := List.mem_map.mp hd
        exact good2 p (g2 p m).1
      · have hbb : doors = [] → (if true = true then !(doors.map duoD).any fun z => z.eqv (PyData.tuple [PyData.str a, PyData.str b]) else (doors.map duoD).any fun z => z.eqv (PyData.tuple [PyData.str a, PyData.str b])) = true := by rintro rfl; rfl
        generalize (if true = true then !(doors.map duoD).any fun z => z.eqv (PyData.tuple [PyData.str a, PyData.str b]) else (doors.map duoD).any fun z => z.eqv (PyData.tuple [PyData.str a, PyData.str b])) = bb at hbb ⊢
        cases bb
        · walk_at "tr"
          refine ⟨by decide, by simp; rw [sizeLine_eq]; omega, cs7, doors, _, _, by simp; exact ⟨rfl, rfl⟩, by omega, g2, fun _ => ?_, hB7.mono (by omega)⟩
          cases doors with
          | nil => exact absurd (hbb rfl) (by decide)
          | cons => simp
        · walk_at "tr"
          refine ⟨by decide, by simp; rw [sizeLine_eq]; omega, cs7, doors ++ [(a, b)], _, _, by simp [duoD]; exact ⟨rfl, rfl⟩, by simp; omega, fun p hp => ?_, fun _ => by simp, hB7.mono (by omega)⟩
          rcases List.mem_append.mp hp with z | z
          · exact g2 p z
          · rw [List.mem_singleton.mp z]
            exact ⟨⟨ha, hb⟩, hao⟩
    · obtain ⟨cs5, doors, t8, t9, rfl, g1, g2, g0, hB5⟩ := hI
      have g3 : doors.length ≤ 8 := by omega
      replace hB5 : BoxOk (n + 428) cs5 := hB5.mono (by omega)
      refine Tr.Later.now ?_
      walk_at "tr"
      have okP : ∀ early : List Str, (∀ x ∈ early, x ∈ others) → early.length ≤ 10 → Plot.Ok ⟨libs, early, doors⟩ := fun early he hel => by
        refine ⟨⟨fun l hl => ⟨(h2 l hl).1, ?_⟩, by show libs.length ≤ 10; omega, by show (libs.map (·.own)).Nodup; rw [h1]; exact hnd, by show 0 < libs.length; omega⟩, ⟨fun x hx => okx x (.tail _ (he x hx)), hel⟩, ⟨fun x hx => (g2 x hx).1, ?_⟩, fun l hl x hx => ?_, fun x hx => ?_, fun d hd => ?_, ?_⟩
        · refine hpool _ ?_
          rw [← h1]
          exact List.mem_map_of_mem hl
        · show doors.length ≤ 10
          omega
        · show x ∈ libs.map (·.own)
          rw [h1]
          exact .tail _ ((h2 l hl).2 x hx)
        · show x ∈ libs.map (·.own)
          rw [h1]
          exact .tail _ (he x hx)
        · show d.1 ∈ libs.map (·.own)
          rw [h1]
          exact .tail _ (g2 d hd).2
        · exact g0 (by omega)
      refine ⟨n + 428, 2, hB5.mono (by omega), by omega, rfl, by decide, by decide, fun r cs6 hr hB6 => ⟨(good_int (n := 0) _).shaped (by decide), (good_int (n := 0) _).shaped (by decide), ?_⟩⟩
      rw [eqv_int]
      split
      · refine ⟨n + 429, 4, hB6.mono (by omega), by omega, rfl, by decide, by decide, fun r2 cs7 hr2 hB7 => ⟨(good_int (n := 0) _).shaped (by decide), (good_int (n := 0) _).shaped (by decide), ?_⟩⟩
        rw [eqv_int]
        obtain ⟨c2, hc2, e2⟩ : ∃ c2 : Nat, c2 ≤ 2 ∧ (1 + if decide ((r2 : Int) = 0) = true then (1 : Int) else 0) = (c2 : Int) := by
          split
          · exact ⟨2, by omega, by omega⟩
          · exact ⟨1, by omega, by omega⟩
        rw [e2]
        refine ⟨n + 430, c2, others, false, hB7.mono (by omega), by omega, rfl, by omega, by omega, fun x hx => (okx x (.tail _ hx)).1, fun early cs8 he1 he2 hB8 => ?_⟩
        refine Tr.Later.now ?_
        walk_at "tr"
        exact ⟨by decide, q ⟨libs, early, doors⟩ cs8 (okP early he2 (by omega)) (hB8.mono (by omega))⟩
      · refine ⟨by decide, ?_⟩
        refine Tr.Later.now ?_
        walk_at "tr"
        exact ⟨by decide, q ⟨libs, [], doors⟩ cs6 (okP [] (by simp) (by simp)) (hB6.mono (by omega))⟩
end
end K12
set_option Elab.async false
set_option linter.all false
set_option maxRecDepth 100000
set_option maxHeartbeats 4000000
namespace K12
open PySem PySem.Spec PyProof.Rows L2 Tr
variable [Tabbed]
local macro_rules | `(tactic| walk_at "tr") => `(tactic| simp only [wRet, wRetN, wExpr, wAsg, wSet, wSetN, wPar, wParV0, wParN0, wAugI, wgNil, wgCons, wCall, wCall0, wCallM, wCallN, wIxO, wFn, wFn1, wFnN, wTuple1, wAppend, wPopAt, wSetO, wNeO, wIsN, wTup, wLst, wYes, wRep, wSliceL, wSliceT, wRev, wRevT, ownAt, asInt, asNat, asList, asTuple, someOf, at0, at1, at2, at3, wIf, wB, wOp, wOpN, wName, wLook, wN, wC, wAnd, wOr, wNot, wAndV, wOrV, wNotV, wSeq, wNext, wIfS, wNil, wCons, wPart, wgSeq, gvName, wTurn, wipeE, gI, gI0, gEq, gNe, gLen, gIx, gInt, gAbs, gMin2, gList, gTup1, gAll, gCatL, gCatT, isNone, startE, startM, List.map_cons, List.map_nil, List.length_cons, List.length_nil, List.cons_append, List.nil_append, List.getElem?_cons_zero, List.getElem?_cons_succ, List.set_cons_zero, List.set_cons_succ, List.replicate, List.length_map, if_true, if_false, Bool.false_eq_true, reduceIte, List.mem_cons, List.not_mem_nil, or_false, forall_eq, forall_eq_or_imp, false_implies, implies_true, true_and, and_true, Option.bind_some, Option.map_some, Option.map_none, Int.reduceLT, Int.reduceLE, Int.reduceToNat, Int.toNat_zero, Int.toNat_one, Int.toNat_natCast, Nat.reduceAdd, Nat.reduceLT, decide_true, List.set, Int.add_zero, Int.zero_add])
section
variable {P : Program} {w : World} {K : PySem.W.Frag} {mg : Str → Option Value} {base : Heap}
/-- one of both is the other, or says nothing -/
def fits (v u : Str) : Bool := decide (v = u) || (decide (v = "") || decide (u = ""))
theorem shaped_str {x : Str} (h : okS x) : SeqAt.shaped (.str x) = true := (good_str (n := 0) h.1).shaped (by decide)
theorem okS_empty : okS "" := ⟨by decide +kernel, by decide +kernel, by decide +kernel⟩
theorem words_ok : ∀ x ∈ words, PyData.strOk x = true ∧ x.length ≤ 8 := by decide +kernel
theorem okS_word {x : Str} (h : x ∈ words) : okS x := ⟨(words_ok x h).1, (words_ok x h).2, h⟩
def tServes : TSp := fun ds Q => ∃ v u : Str, ds = [.str v, .str u] ∧ okS v ∧ okS u ∧ Q (.bool (fits v u))
theorem ok_serves (T : Top K mg) : FnOk P w K mg base (L2.CX P w) 1 T.a_serves T.d_serves ["version", "wanted"] (spV K 2 tServes) := by
  refine fn_pure T.F_serves sc_serves rfl fun c A o s H E hr => ?_
  have nd := sc_serves.nd
  have hu := hr.units
  refine ⟨_, _, (svs_one (sv_ret (ev_or (ev_eq hu (ev_name 0) (ev_name 1)) (ev_or (ev_eq hu (ev_name 0) ev_str) (ev_one (ev_eq hu (ev_name 1) ev_str)))))), fun ds P' hl hT => ?_⟩
  obtain ⟨v, u, rfl, hv, hu', q⟩ := hT
  have ev := shaped_str hv
  have eu := shaped_str hu'
  have ee := shaped_str okS_empty
  walk_at "tr"
  refine ⟨ev, eu, ?_⟩
  unfold fits at q
  simp only [eqv_str]
  by_cases h1 : v = u
  · simp only [h1, decide_true, Bool.true_or] at q ⊢
    exact q
  · by_cases h2 : v = ""
    · simp only [h1, h2, decide_true, decide_false, Bool.true_or, Bool.false_or, Bool.or_true] at q ⊢
      by_cases h3 : ("" : Str) = u
      · exact absurd (h2.trans h3) h1
      · rw [decide_eq_false h3]
        exact ⟨ee, ee, q⟩
    · simp only [h1, h2, decide_true, decide_false, Bool.true_or, Bool.false_or] at q ⊢
      exact ⟨ev, ee, eu, ee, q⟩
def firstFit (defs : List (Str × Str)) (sym ver : Str) : Option Str := (defs.find? fun p => decide (p.1 = sym) && fits p.2 ver).map Prod.snd
theorem firstFit_cons (p : Str × Str) (ds : List (Str × Str)) (sym ver : Str) : firstFit (p :: ds) sym ver = if (decide (p.1 = sym) && fits p.2 ver) = true then some p.2 else firstFit ds sym ver := by
  unfold firstFit
  rw [List.find?_cons]
  cases (decide (p.1 = sym) && fits p.2 ver) <;> rfl
def dueOf (defs : List (Str × Str)) (sym ver : Str) : Option Str := if (sym, ver) ∈ defs then some ver else firstFit defs sym ver
def optD : Option Str → PyData
  | none => .none
  | some v => .str v
end
end K12
set_option Elab.async false
set_option linter.all false
set_option maxRecDepth 100000
set_option maxHeartbeats 4000000
namespace K12
open PySem PySem.Spec PyProof.Rows L2 Tr
variable [Tabbed]
local macro_rules | `(tactic| walk_at "tr") => `(tactic| simp only [wRet, wRetN, wExpr, wAsg, wSet, wSetN, wPar, wParV0, wParN0, wAugI, wgNil, wgCons, wCall, wCall0, wCallM, wCallN, wIxO, wFn, wFn1, wFnN, wTuple1, wAppend, wPopAt, wSetO, wNeO, wIsN, wTup, wLst, wYes, wRep, wSliceL, wSliceT, wRev, wRevT, wIsLT, wMinT, ownAt, asInt, asNat, asList, asTuple, someOf, at0, at1, at2, at3, wIf, wB, wOp, wOpN, wName, wLook, wN, wC, wAnd, wOr, wNot, wAndV, wOrV, wNotV, wSeq, wNext, wIfS, wNil, wCons, wPart, wgSeq, gvName, wTurn, wipeE, gI, gI0, gEq, gNe, gLen, gIx, gInt, gAbs, gMin2, gList, gTup1, gAll, gCatL, gCatT, isNone, startE, startM, List.map_cons, List.map_nil, List.length_cons, List.length_nil, List.cons_append, List.nil_append, List.getElem?_cons_zero, List.getElem?_cons_succ, List.set_cons_zero, List.set_cons_succ, List.replicate, List.length_map, if_true, if_false, Bool.false_eq_true, reduceIte, List.mem_cons, List.not_mem_nil, or_false, forall_eq, forall_eq_or_imp, false_implies, implies_true, true_and, and_true, Option.bind_some, Option.map_some, Option.map_none, Int.reduceLT, Int.reduceLE, Int.reduceToNat, Int.toNat_zero, Int.toNat_one, Int.toNat_natCast, Nat.reduceAdd, Nat.reduceLT, decide_true, List.set, Int.add_zero, Int.zero_add])
def duoT (b : Bool) (p : Str × Str) : PyData := seqOf b [.str p.1, .str p.2]
def useT (b : Bool) (u : (Str × Str) × Bool) : PyData := seqOf b [.str u.1.1, .str u.1.2, .bool u.2]
def libT (b : Bool) (l : Lib) : PyData := seqOf b [.str l.own, seqOf b (l.needs.map .str), seqOf b (l.defs.map (duoT b)), seqOf b (l.uses.map (useT b))]
def plotT (b : Bool) (p : Plot) : PyData := seqOf b [seqOf b (p.libs.map (libT b)), seqOf b (p.early.map .str), seqOf b (p.doors.map (duoT b))]
theorem plotT_d (p : Plot) : plotT true p = p.d := rfl
section
variable {P : Program} {w : World} {K : PySem.W.Frag} {mg : Str → Option Value} {base : Heap}
def Fine (p : Plot) : Prop := (∀ l ∈ p.libs, l.Ok) ∧ (p.libs.map (·.own)).Nodup
theorem fine_of {p : Plot} (h : p.Ok) : Fine p := ⟨fun l hl => (h.libs.1 l hl).1, h.libs.2.2.1⟩
def tNamed : TSp := fun ds Q => ∃ (b : Bool) (p : Plot) (l : Lib) (i : Nat), Fine p ∧ p.libs[i]? = some l ∧ ds = [plotT b p, .str l.own] ∧ Q (libT b l)
theorem ok_lib_named (T : Top K mg) : FnOk P w K mg base (L2.CX P w) 1 T.a_lib_named T.d_lib_named ["program", "name"] (spV K 2 tNamed) := by
  refine fn_pure T.F_lib_named sc_lib_named rfl fun c A o s H E hr => ?_
  have nd := sc_lib_named.nd
  have hu := hr.units
  refine ⟨_, _, (svs_cons (sv_for (ev_ix (ev_name 0) ev_int) (gv_name 2 nd) (svs_one (sv_if (et_eq hu (ev_ix (ev_name 2) ev_int) (ev_name 1)) (svs_one (sv_ret (ev_name 2))) svs_nil)) PassesOwn.never rfl)
      (svs_one sv_dead)), fun ds P' hl hT => ?_⟩
  obtain ⟨b, p, l, i, hp, hi, rfl, q⟩ := hT
  have ol := (hp.1 l (List.mem_of_getElem? hi)).own
  have one : ∀ (j k : Nat) (m n : Lib), p.libs[j]? = some m → p.libs[k]? = some n → m.own = n.own → j = k := fun j k m n h1 h2 e => by
    have nd2 := hp.2
    have lj : j < (p.libs.map (·.own)).length := by
      rw [List.length_map]
      exact (List.getElem?_eq_some_iff.mp h1).1
    exact (List.getElem?_inj lj nd2).mp (by rw [List.getElem?_map, List.getElem?_map, h1, h2]; exact congrArg some e)
  cases b
  · simp only [plotT, seqOf]
    walk_at "tr"
    unfold wFor
    refine ⟨false, ?_⟩
    walk_at "tr"
    refine ⟨p.libs.map (libT false), rfl, fun k ρ => (k ≤ i) ∧ ∃ t0 t, ρ = [t0, .val (.str l.own), t], ⟨Nat.zero_le _, _, _, rfl⟩, fun k x ρ hx hI => ?_, fun ρ hI => ?_⟩
    · obtain ⟨hk, t0, t, rfl⟩ := hI
      obtain ⟨m, rfl, hm⟩ : ∃ m : Lib, x = libT false m ∧ p.libs[k]? = some m := by
        rw [List.getElem?_map] at hx
        cases e : p.libs[k]? with
        | none => rw [e] at hx; cases hx
        | some m => rw [e] at hx; exact ⟨m, (Option.some.inj hx).symm, rfl⟩
      have om := (hp.1 m (List.mem_of_getElem? hm)).own
      refine Tr.Later.now ?_
      walk_at "tr"
      simp only [libT, seqOf]
      walk_at "tr"
      refine ⟨shaped_str om, shaped_str ol, ?_⟩
      rw [eqv_str]
      by_cases e : m.own = l.own
      · rw [if_pos (by simp [e])]
        have ek : k = i := one k i m l hm hi e
        subst ek
        rw [hi] at hm
        cases hm
        refine Tr.Later.now ?_
        walk_at "tr"
        exact q
      · rw [if_neg (by simp [e])]
        refine Tr.Later.now ?_
        walk_at "tr"
        have nk : k ≠ i := fun z => by
          subst z
          rw [hi] at hm
          cases hm
          exact e rfl
        exact ⟨by omega, _, _, rfl⟩
    · obtain ⟨hk, _⟩ := hI
      rw [List.length_map] at hk
      have := (List.getElem?_eq_some_iff.mp hi).1
      omega
  · simp only [plotT, seqOf]
    walk_at "tr"
    unfold wFor
    refine ⟨true, ?_⟩
    walk_at "tr"
    refine ⟨p.libs.map (libT true), rfl, fun k ρ => (k ≤ i) ∧ ∃ t0 t, ρ = [t0, .val (.str l.own), t], ⟨Nat.zero_le _, _, _, rfl⟩, fun k x ρ hx hI => ?_, fun ρ hI => ?_⟩
    · obtain ⟨hk, t0, t, rfl⟩ := hI
      obtain ⟨m, rfl, hm⟩ : ∃ m : Lib, x = libT true m ∧ p.libs[k]? = some m := by
        rw [List.getElem?_map] at hx
        cases e : p.libs[k]? with
        | none => rw [e] at hx; cases hx
        | some m => rw [e] at hx; exact ⟨m, (Option.some.inj hx).symm, rfl⟩
      have om := (hp.1 m (List.mem_of_getElem? hm)).own
      refine Tr.Later.now ?_
      walk_at "tr"
      simp only [libT, seqOf]
      walk_at "tr"
      refine ⟨shaped_str om, shaped_str ol, ?_⟩
      rw [eqv_str]
      by_cases e : m.own = l.own
      · rw [if_pos (by simp [e])]
        have ek : k = i := one k i m l hm hi e
        subst ek
        rw [hi] at hm
        cases hm
        refine Tr.Later.now ?_
        walk_at "tr"
        exact q
      · rw [if_neg (by simp [e])]
        refine Tr.Later.now ?_
        walk_at "tr"
        have nk : k ≠ i := fun z => by
          subst z
          rw [hi] at hm
          cases hm
          exact e rfl
        exact ⟨by omega, _, _, rfl⟩
    · obtain ⟨hk, _⟩ := hI
      rw [List.length_map] at hk
      have := (List.getElem?_eq_some_iff.mp hi).1
      omega
end
end K12
set_option Elab.async false
set_option linter.all false
set_option maxRecDepth 100000
set_option maxHeartbeats 4000000
namespace K12
open PySem PySem.Spec PyProof.Rows L2 Tr
variable [Tabbed]
local macro_rules | `(tactic| walk_at "tr") => `(tactic| simp only [wRet, wRetN, wExpr, wAsg, wSet, wSetN, wPar, wParV0, wParN0, wAugI, wgNil, wgCons, wCall, wCall0, wCallM, wCallN, wIxO, wFn, wFn1, wFnN, wTuple1, wAppend, wPopAt, wSetO, wNeO, wIsN, wTup, wLst, wYes, wRep, wSliceL, wSliceT, wRev, wRevT, wIsLT, wMinT, wSortLam, ownAt, asInt, asNat, asList, asTuple, someOf, at0, at1, at2, at3, wIf, wB, wOp, wOpN, wName, wLook, wN, wC, wAnd, wOr, wNot, wAndV, wOrV, wNotV, wSeq, wNext, wIfS, wNil, wCons, wPart, wgSeq, gvName, wTurn, wipeE, gI, gI0, gEq, gNe, gLen, gIx, gInt, gAbs, gMin2, gList, gTup1, gAll, gCatL, gCatT, isNone, startE, startM, List.map_cons, List.map_nil, List.length_cons, List.length_nil, List.cons_append, List.nil_append, List.getElem?_cons_zero, List.getElem?_cons_succ, List.set_cons_zero, List.set_cons_succ, List.replicate, List.length_map, if_true, if_false, Bool.false_eq_true, reduceIte, List.mem_cons, List.not_mem_nil, or_false, forall_eq, forall_eq_or_imp, false_implies, implies_true, true_and, and_true, Option.bind_some, Option.map_some, Option.map_none, Int.reduceLT, Int.reduceLE, Int.reduceToNat, Int.toNat_zero, Int.toNat_one, Int.toNat_natCast, Nat.reduceAdd, Nat.reduceLT, decide_true, List.set, Int.add_zero, Int.zero_add])
section
variable {P : Program} {w : World} {K : PySem.W.Frag} {mg : Str → Option Value} {base : Heap}
/-- the versions that would do -/
def goodV (defs : List (Str × Str)) (sym ver : Str) : List Str := (defs.filter fun p => decide (p.1 = sym) && fits p.2 ver).map Prod.snd
def givesOf (defs : List (Str × Str)) (sym ver : Str) : Option Str := (srtBy ver (goodV defs sym ver)).head?
theorem wg_seq {n : Nat} {wgs : WGs} (b : Bool) {ds : List PyData} {ρ : En} {Q : En → Prop} (hn : ds.length = n) (h : wgs ds ρ Q) : wgSeq n wgs (seqOf b ds) ρ Q := by
  cases b <;> exact ⟨hn, h⟩
theorem gIx_lib (b : Bool) (l : Lib) {Q : PyData → Prop} (h : Q (seqOf b (l.defs.map (duoT b)))) : gIx (libT b l) (.int 2) Q := by
  cases b <;> exact h
theorem goodV_next {defs : List (Str × Str)} {k : Nat} {p : Str × Str} (sym ver : Str) (e : defs[k]? = some p) : goodV (defs.take (k + 1)) sym ver = goodV (defs.take k) sym ver ++ (if (decide (p.1 = sym) && fits p.2 ver) = true then [p.2] else []) := by
  unfold goodV
  rw [take_one e, List.filter_append, List.map_append]
  cases h : (decide (p.1 = sym) && fits p.2 ver)
  · simp [h]
  · simp [h]
def tServing : TSp := fun ds Q => ∃ (b c : Bool) (p : Plot) (l : Lib) (i : Nat) (sym ver : Str) (w : Bool), Fine p ∧ p.libs[i]? = some l ∧ okS sym ∧ okS ver ∧ ds = [plotT b p, .str l.own, seqOf c [.str sym, .str ver, .bool w]] ∧ Q (.list ((srtBy ver (goodV l.defs sym ver)).map .str))
theorem ok_serving (T : Top K mg) (TB : LamX.TabB base mg T.cS T.PS) : FnOk P w K mg base (L2.CX P w) 2 T.a_serving T.d_serving ["program", "name", "use"] (spV K 3 tServing) := by
  refine fn_pureC T.F_serving sc_serving rfl fun cv A o s H E hcv hr => ?_
  have nd := sc_serving.nd
  have hu := hr.units
  refine ⟨_, _, (svs_cons (sv_asg (ev_name 2) (gv_seq rfl (gvs_cons (gv_name 3 nd) (gvs_cons (gv_name 4 nd) (gvs_cons (gv_name 5 nd) gvs_nil)))))
      (svs_cons (sv_set 6 nd (ev_ix (ev_call (ok_lib_named T) (hr.mono (by decide)) T.m_lib_named T.F_lib_named.kp T.B_lib_named (ea_cons (ev_name 0) (ea_cons (ev_name 1) ea_nil))) ev_int))
      (svs_cons (sv_setLc (g := gSeq K 2 _) (wg := wgSeq 2 _) (tt := tAnd (tTest (tOp (rEqD K) _ _)) (tB (tCall (spV K 2 tServes) [] E0 _))) 7 [("defined", 8), ("version", 9)] rfl nd (ev_name 6) (blkOk_by (N := N_serving) (sc := defScope s_serving) (by decide +kernel)) (sw_true rfl rfl rfl (by decide +kernel)) (fun _ _ _ _ _ => (gv_seq (n := 2) rfl (gvs_cons (gv_name 8 nd) (gvs_cons (gv_name 9 nd) gvs_nil)))) (fun _ _ _ _ _ => ets_one (ew_and (et_eq hu (ev_name 8) (ev_name 3)) (ew_and1 (et_val (ev_call (ok_serves T) (hr.mono (by decide)) T.m_serves T.F_serves.kp T.B_serves (ea_cons (ev_name 9) (ea_cons (ev_name 4) ea_nil)))))).et) (fun _ _ _ _ _ => (ev_name 9)) (by decide))
      (svs_one (sv_ret (en_sortLam 4 (hr.mono (by decide)) T.b_sorted TB (hcv.trans T.cd_serving) T.tab (by rfl) T.one (ev_name 7)).ev))))), fun ds P' hl hT => ?_⟩
  obtain ⟨b, c, p, l, i, sym, ver, w, hp, hi, hs, hv, rfl, q⟩ := hT
  refine wg_seq (n := 3) c rfl ?_
  walk_at "tr"
  refine ⟨rfl, ?_⟩
  refine ⟨b, p, l, i, hp, hi, rfl, ?_⟩
  dsimp only [wC]
  refine gIx_lib b l ?_
  refine Tr.Later.now ?_
  have L := hp.1 l (List.mem_of_getElem? hi)
  have ss := shaped_str hs
  have sv := shaped_str hv
  show wLc _ _ _ _ _ _ _
  unfold wLc
  refine ⟨b, ?_⟩
  refine ⟨l.defs.map (duoT b), rfl, fun k acc ρ => acc = (goodV (l.defs.take k) sym ver).map .str ∧ ρ = [.val (plotT b p), .val (.str l.own), .val (seqOf c [.str sym, .str ver, .bool w]), .val (.str sym), .val (.str ver), .val (.bool w), .val (seqOf b (l.defs.map (duoT b))), .un, .un, .un], ⟨rfl, rfl⟩, fun k x acc ρ hx hI => ?_, fun acc ρ hI => ?_⟩
  · obtain ⟨rfl, rfl⟩ := hI
    obtain ⟨m, rfl, hm⟩ : ∃ m : Str × Str, x = duoT b m ∧ l.defs[k]? = some m := by
      rw [List.getElem?_map] at hx
      cases e : l.defs[k]? with
      | none => rw [e] at hx; cases hx
      | some m => rw [e] at hx; exact ⟨m, (Option.some.inj hx).symm, rfl⟩
    obtain ⟨o1, o2⟩ := L.defs.2.1 m (List.mem_of_getElem? hm)
    have hk : k < 4 := by
      have h1 := (List.getElem?_eq_some_iff.mp hm).1
      have h2 := L.defs.2.2
      omega
    have nx := goodV_next sym ver hm
    refine ⟨by simp, wg_seq b rfl ?_⟩
    walk_at "tr"
    refine ⟨shaped_str o1, ss, ?_⟩
    rw [nx, eqv_str]
    have lg : (goodV (l.defs.take k) sym ver).length < sizeLine := by
      have h1 : (goodV (l.defs.take k) sym ver).length ≤ k := by
        unfold goodV
        rw [List.length_map]
        exact Nat.le_trans (List.length_filter_le _ _) (by rw [List.length_take]; omega)
      rw [sizeLine_eq]
      omega
    by_cases e1 : m.1 = sym
    · rw [if_pos (by simp [e1])]
      refine ⟨m.2, ver, rfl, o2, hv, ?_⟩
      cases e2 : fits m.2 ver
      · show (if false = true then _ else _)
        rw [if_neg Bool.false_ne_true]
        simp [e1]
      · show (if true = true then _ else _)
        rw [if_pos rfl]
        exact ⟨lg, by simp [e1]⟩
    · rw [if_neg (by simp [e1])]
      simp [e1]
  · obtain ⟨rfl, rfl⟩ := hI
    rw [List.length_map, List.take_length]
    have okg : ∀ x ∈ goodV l.defs sym ver, okS x := fun x hx => by
      obtain ⟨m, hm, rfl⟩ := List.mem_map.mp hx
      exact (L.defs.2.1 m (List.mem_filter.mp hm).1).2
    have l4 : (goodV l.defs sym ver).length < 4000 := by
      have h1 : (goodV l.defs sym ver).length ≤ l.defs.length := by
        unfold goodV
        rw [List.length_map]
        exact List.length_filter_le _ _
      have h2 := L.defs.2.2
      omega
    dsimp only
    refine Tr.Later.now ?_
    walk_at "tr"
    exact ⟨_, ver, rfl, l4, rfl, q⟩
def tGives : TSp := fun ds Q => ∃ (b c : Bool) (p : Plot) (l : Lib) (i : Nat) (sym ver : Str) (w : Bool), Fine p ∧ p.libs[i]? = some l ∧ okS sym ∧ okS ver ∧ ds = [plotT b p, .str l.own, seqOf c [.str sym, .str ver, .bool w]] ∧ Q (optT (givesOf l.defs sym ver))
theorem ok_gives (T : Top K mg) (TB : LamX.TabB base mg T.cS T.PS) : FnOk P w K mg base (L2.CX P w) 3 T.a_gives T.d_gives ["program", "name", "use"] (spV K 3 tGives) := by
  refine fn_pure T.F_gives sc_gives rfl fun cv A o s H E hr => ?_
  have nd := sc_gives.nd
  refine ⟨_, _, (svs_cons (sv_set 3 nd (ev_call (ok_serving T TB) (hr.mono (by decide)) T.m_serving T.F_serving.kp T.B_serving (ea_cons (ev_name 0) (ea_cons (ev_name 1) (ea_cons (ev_name 2) ea_nil)))))
      (svs_one (sv_ret (ev_if (et_tru (ev_name 3)) (ev_ix (ev_name 3) ev_int) ev_non)))), fun ds P' hl hT => ?_⟩
  obtain ⟨b, c, p, l, i, sym, ver, w, hp, hi, hs, hv, rfl, q⟩ := hT
  walk_at "tr"
  refine ⟨b, c, p, l, i, sym, ver, w, hp, hi, hs, hv, rfl, ?_⟩
  dsimp only
  refine Tr.Later.now ?_
  walk_at "tr"
  unfold givesOf at q
  cases e : srtBy ver (goodV l.defs sym ver) with
  | nil =>
    rw [e] at q
    refine ⟨false, [], rfl, ?_⟩
    exact q
  | cons y ys =>
    rw [e] at q
    refine ⟨false, _, rfl, ?_⟩
    show (if true = true then _ else _)
    rw [if_pos rfl]
    have e0 : atI ((y :: ys).map PyData.str) 0 = some (.str y) := by simp [atI, ixN]
    simp only [List.getElem?_cons_succ, List.getElem?_cons_zero, e0]
    exact q
end
theorem optT_D (o : Option Str) : optT o = optD o := by cases o <;> rfl
/-- what gives tells is what is due -/
theorem gives_due (defs : List (Str × Str)) (sym ver : Str) (h : defs.Pairwise PairLt) : givesOf defs sym ver = dueOf defs sym ver := by
  have m : ver ∈ goodV defs sym ver ↔ (sym, ver) ∈ defs := by
    unfold goodV
    constructor
    · intro hm
      obtain ⟨p, hp, e⟩ := List.mem_map.mp hm
      have h1 := List.mem_filter.mp hp
      have h2 : p.1 = sym := by
        have := h1.2
        rw [Bool.and_eq_true, decide_eq_true_eq] at this
        exact this.1
      have e2 : p = (sym, ver) := Prod.ext h2 e
      exact e2 ▸ h1.1
    · intro hm
      exact List.mem_map.mpr ⟨(sym, ver), List.mem_filter.mpr ⟨hm, by simp [fits]⟩, rfl⟩
  have pw : (goodV defs sym ver).Pairwise (fun a b => a.cps.toList < b.cps.toList) := by
    unfold goodV
    refine List.pairwise_map.mpr ((h.filter _).imp_of_mem fun {p q} hp hq lt => ?_)
    have h1 := (List.mem_filter.mp hp).2
    have h2 := (List.mem_filter.mp hq).2
    rw [Bool.and_eq_true, decide_eq_true_eq] at h1 h2
    rcases lt with lt | lt
    · rw [h1.1, h2.1] at lt
      exact absurd lt (List.lt_irrefl _)
    · exact lt.2
  unfold givesOf dueOf
  rw [srt_first pw]
  by_cases c : (sym, ver) ∈ defs
  · rw [if_pos c, if_pos (m.mpr c)]
  · rw [if_neg c, if_neg fun z => c (m.mp z)]
    unfold goodV firstFit
    rw [List.head?_map, List.head?_filter]
end K12
set_option Elab.async false
set_option linter.all false
set_option maxRecDepth 100000
set_option maxHeartbeats 4000000
namespace K12
open PySem PySem.Spec PyProof.Rows L2 Tr
variable [Tabbed]
local macro_rules | `(tactic| walk_at "tr") => `(tactic| simp only [wRet, wRetN, wExpr, wAsg, wSet, wSetN, wPar, wParV0, wParN0, wAugI, wgNil, wgCons, wCall, wCall0, wCallM, wCallN, wIxO, wFn, wFn1, wFnN, wTuple1, wAppend, wPopAt, wSetO, wNeO, wIsN, wTup, wLst, wYes, wRep, wSliceL, wSliceT, wRev, wRevT, wIsLT, wMinT, ownAt, asInt, asNat, asList, asTuple, someOf, at0, at1, at2, at3, wIf, wB, wOp, wOpN, wName, wLook, wN, wC, wAnd, wOr, wNot, wAndV, wOrV, wNotV, wSeq, wNext, wIfS, wNil, wCons, wPart, wgSeq, gvName, wTurn, wipeE, gI, gI0, gEq, gNe, gLen, gIx, gInt, gAbs, gMin2, gList, gTup1, gAll, gCatL, gCatT, isNone, startE, startM, List.map_cons, List.map_nil, List.length_cons, List.length_nil, List.cons_append, List.nil_append, List.getElem?_cons_zero, List.getElem?_cons_succ, List.set_cons_zero, List.set_cons_succ, List.replicate, List.length_map, if_true, if_false, Bool.false_eq_true, reduceIte, List.mem_cons, List.not_mem_nil, or_false, forall_eq, forall_eq_or_imp, false_implies, implies_true, true_and, and_true, Option.bind_some, Option.map_some, Option.map_none, Int.reduceLT, Int.reduceLE, Int.reduceToNat, Int.toNat_zero, Int.toNat_one, Int.toNat_natCast, Nat.reduceAdd, Nat.reduceLT, decide_true, List.set, Int.add_zero, Int.zero_add])
section
variable {P : Program} {w : World} {K : PySem.W.Frag} {mg : Str → Option Value} {base : Heap}
/-- a tree that can be told, and its telling compared -/
def Told (d : PyData) : Prop := Shows d ∧ SeqAt.shaped (.str d.shown) = true
def tSame : TSp := fun ds Q => ∃ a, ds = [a, a] ∧ Told a ∧ Q (.bool true)
theorem ok_same (T : Top K mg) : FnG P w K mg base 1 T.a_same T.d_same ["_law_found", "_law_due"] (spV K 2 tSame) := by
  refine fn_pureG T.F_same sc_same rfl fun c A o s H E hgd hr => ?_
  have nd := sc_same.nd
  have hu := hr.units
  have hu6 : (A.deeper (envOfC "_law_same" (defScope s_same) s.heap.objs.size T.a_same c)).units + 66 < cLine := by have := hr.un; omega
  refine ⟨_, _, (svs_one (sv_ret (ev_eq hu (ev_repr hgd hu6 T.b_repr (er_name 0)) (ev_repr hgd hu6 T.b_repr (er_name 1))))), fun ds P' hl hT => ?_⟩
  obtain ⟨a, rfl, ha, q⟩ := hT
  walk_at "tr"
  refine ⟨ha.1, ha.1, ha.2, ha.2, ?_⟩
  rw [eqv_str, decide_eq_true rfl]
  exact q
end
end K12
set_option Elab.async false
set_option linter.all false
set_option maxRecDepth 100000
set_option maxHeartbeats 4000000
namespace K12
open PySem PySem.Spec PyProof.Rows L2 Tr
variable [Tabbed]
/-! ### what row is -/
def addOne (f : List Str) (x : Str) : List Str := if x ∈ f then f else f ++ [x]
def addNew (fs ns : List Str) : List Str := ns.foldl addOne fs
theorem addNew_one (fs ns : List Str) (x : Str) : addNew fs (ns ++ [x]) = addOne (addNew fs ns) x := by
  unfold addNew
  rw [List.foldl_append]
  rfl
theorem addOne_mem {f : List Str} {x y : Str} (h : y ∈ addOne f x) : y ∈ f ∨ y = x := by
  unfold addOne at h
  split at h
  · exact .inl h
  · rcases List.mem_append.mp h with h | h
    · exact .inl h
    · exact .inr (List.mem_singleton.mp h)
theorem addNew_mem {y : Str} : ∀ (ns fs : List Str), y ∈ addNew fs ns → y ∈ fs ∨ y ∈ ns
  | [], fs, h => .inl h
  | x :: ns, fs, h => by
    rcases addNew_mem ns (addOne fs x) h with h | h
    · rcases addOne_mem h with h | rfl
      · exact .inl h
      · exact .inr (.head _)
    · exact .inr (.tail _ h)
theorem addOne_nd {f : List Str} {x : Str} (h : f.Nodup) : (addOne f x).Nodup := by
  unfold addOne
  split
  · exact h
  · rename_i hx
    refine List.nodup_append.mpr ⟨h, by simp, fun a ha b hb e => ?_⟩
    rw [List.mem_singleton.mp hb] at e
    subst e
    exact hx ha
theorem addNew_nd : ∀ (ns fs : List Str), fs.Nodup → (addNew fs ns).Nodup
  | [], fs, h => h
  | x :: ns, fs, h => addNew_nd ns _ (addOne_nd h)
theorem addOne_len (f : List Str) (x : Str) : f.length ≤ (addOne f x).length := by
  unfold addOne
  split
  · exact Nat.le_refl _
  · rw [List.length_append]
    omega
theorem addNew_len : ∀ (ns fs : List Str), fs.length ≤ (addNew fs ns).length
  | [], fs => Nat.le_refl _
  | x :: ns, fs => Nat.le_trans (addOne_len fs x) (addNew_len ns _)
theorem addNew_le : ∀ (ns fs : List Str), (addNew fs ns).length ≤ fs.length + ns.length
  | [], fs => Nat.le_refl _
  | x :: ns, fs => by
    have h := addNew_le ns (addOne fs x)
    have h2 : (addOne fs x).length ≤ fs.length + 1 := by
      unfold addOne
      split
      · omega
      · rw [List.length_append]
        exact Nat.le_refl _
    show (addNew (addOne fs x) ns).length ≤ _
    rw [List.length_cons]
    omega
theorem nd_le : ∀ (l m : List Str), l.Nodup → (∀ x ∈ l, x ∈ m) → l.length ≤ m.length
  | [], m, _, _ => Nat.zero_le _
  | x :: l, m, h, s => by
    rw [List.nodup_cons] at h
    have hx := s x (.head _)
    have ih := nd_le l (m.erase x) h.2 fun y hy => by
      refine (List.mem_erase_of_ne fun e : y = x => ?_).mpr (s y (.tail _ hy))
      rw [e] at hy
      exact h.1 hy
    rw [List.length_erase_of_mem hx] at ih
    have : 0 < m.length := List.length_pos_of_mem hx
    rw [List.length_cons]
    omega
def Plot.owns (p : Plot) : List Str := p.libs.map (·.own)
def needsOf (p : Plot) (x : Str) : List Str := match p.libs.find? (fun l => decide (l.own = x)) with
  | some l => l.needs
  | none => []
def walkRow (p : Plot) : Nat → Nat → List Str → List Str
  | 0, _, fs => fs
  | k + 1, a, fs => match fs[a]? with
    | some x => walkRow p k (a + 1) (addNew fs (needsOf p x))
    | none => fs
def rowOf (p : Plot) (xs : List Str) : List Str := walkRow p 100 0 (addNew [] xs)
theorem find_lib {p : Plot} {x : Str} (h : x ∈ p.owns) : ∃ (l : Lib) (i : Nat), p.libs[i]? = some l ∧ l.own = x ∧ needsOf p x = l.needs := by
  obtain ⟨l0, m0, e0⟩ := List.mem_map.mp h
  unfold needsOf
  cases e : p.libs.find? (fun l => decide (l.own = x)) with
  | none =>
    have := List.find?_eq_none.mp e l0 m0
    exact absurd (decide_eq_true e0) this
  | some l =>
    obtain ⟨i, hi⟩ := List.mem_iff_getElem?.mp (List.mem_of_find?_eq_some e)
    exact ⟨l, i, hi, of_decide_eq_true (List.find?_some (p := fun l : Lib => decide (l.own = x)) e), rfl⟩
theorem needs_own {p : Plot} (hp : p.Ok) {x : Str} : ∀ y ∈ needsOf p x, y ∈ p.owns := by
  unfold needsOf
  intro y hy
  split at hy
  · rename_i l e
    exact hp.need l (List.mem_of_find?_eq_some e) y hy
  · cases hy
theorem own_ok {p : Plot} (hp : p.Ok) {x : Str} (h : x ∈ p.owns) : okS x := by
  obtain ⟨l, m, rfl⟩ := List.mem_map.mp h
  exact ((hp.libs.1 l m).1).own
theorem owns_len {p : Plot} (hp : p.Ok) : p.owns.length ≤ 10 := by
  unfold Plot.owns
  rw [List.length_map]
  exact hp.libs.2.1
theorem walk_mem {p : Plot} (hp : p.Ok) : ∀ (k a : Nat) (fs : List Str), (∀ x ∈ fs, x ∈ p.owns) → fs.Nodup → (∀ x ∈ walkRow p k a fs, x ∈ p.owns) ∧ (walkRow p k a fs).Nodup
  | 0, _, _, h, n => ⟨h, n⟩
  | k + 1, a, fs, h, n => by
    unfold walkRow
    split
    · rename_i x e
      refine walk_mem hp k (a + 1) _ (fun y hy => ?_) (addNew_nd _ _ n)
      rcases addNew_mem _ _ hy with hy | hy
      · exact h y hy
      · exact needs_own hp y hy
    · exact ⟨h, n⟩
theorem row_mem {p : Plot} (hp : p.Ok) {xs : List Str} (h : ∀ x ∈ xs, x ∈ p.owns) : (∀ x ∈ rowOf p xs, x ∈ p.owns) ∧ (rowOf p xs).length ≤ 10 := by
  have g := walk_mem hp 100 0 (addNew [] xs) (fun x hx => (addNew_mem _ _ hx).elim (fun z => nomatch z) (h x)) (addNew_nd _ _ .nil)
  exact ⟨g.1, Nat.le_trans (nd_le _ _ g.2 g.1) (owns_len hp)⟩
theorem any_texts (fs : List Str) (x : Str) : ((fs.map PyData.str).any fun z => PyData.eqv z (.str x)) = decide (x ∈ fs) := by
  induction fs with
  | nil => simp
  | cons y fs ih =>
    rw [List.map_cons, List.any_cons, ih, eqv_str]
    by_cases e : y = x
    · subst e
      simp
    · have e' : ¬ x = y := fun z => e z.symm
      simp [e, e']
/-! ### lists of texts can be told -/
def Asc (x : Str) : Prop := ∀ c ∈ x.cps.toList, c < 1114112
theorem asc_app {a b : Str} (ha : Asc a) (hb : Asc b) : Asc (a ++ b) := fun c h => (mem_cps_append.mp h).elim (ha c) (hb c)
theorem asc_from : ∀ (ts : List Str) (k : Nat) (acc : Str), Asc acc → (∀ t ∈ ts, Asc t) → Asc (textFrom k acc ts)
  | [], k, acc, h, _ => h
  | t :: ts, k, acc, h, ht => asc_from ts (k + 1) _ (asc_app (asc_app h (by
      split
      · unfold Asc
        decide
      · unfold Asc
        decide)) (ht t (.head _))) fun u hu => ht u (.tail _ hu)
theorem asc_list {ts : List Str} (h : ∀ t ∈ ts, Asc t) : Asc (listText ts) := asc_app (asc_from ts 0 _ (by unfold Asc; decide) h) (by unfold Asc; decide)
theorem words_asc : ∀ x ∈ words, ∀ c ∈ (reprText x).cps.toList, c < 1114112 := by decide +kernel
theorem words_low : ∀ x ∈ words, ∀ c ∈ x.cps.toList, c < 16 ^ 8 := by decide +kernel
theorem asc_ok {x : Str} (h : Asc x) : PyData.strOk x = true := by
  unfold PyData.strOk
  rw [← Array.all_toList, List.all_eq_true]
  intro c hc
  exact decide_eq_true (h c hc)
def textsD (xs : List Str) : PyData := .list (xs.map .str)
theorem asc_texts {xs : List Str} (h : ∀ x ∈ xs, x ∈ words) : Asc (textsD xs).shown := by
  show Asc (listText (PyData.shownAll (xs.map .str)))
  refine asc_list fun t ht => ?_
  rw [shownAll_eq_map, List.map_map] at ht
  obtain ⟨x, hx, rfl⟩ := List.mem_map.mp ht
  exact words_asc x (h x hx)
theorem bulk_texts : ∀ (xs : List Str), (∀ x ∈ xs, x ∈ words) → PyData.bulkAll (xs.map .str) ≤ 9 * xs.length
  | [], _ => Nat.le_refl _
  | x :: xs, h => by
    have h1 := bulk_texts xs fun y hy => h y (.tail _ hy)
    have h2 : x.cps.size ≤ 8 := (words_ok x (h x (.head _))).2
    show x.cps.size + 1 + PyData.bulkAll (xs.map .str) ≤ 9 * (xs.length + 1)
    omega
theorem short_texts : ∀ (xs : List Str), (∀ x ∈ xs, x ∈ words) → PyData.leavesShortAll 8 (xs.map .str) = true
  | [], _ => rfl
  | x :: xs, h => by
    have h1 := short_texts xs fun y hy => h y (.tail _ hy)
    show (x.cps.toList.all (fun c => decide (c < 16 ^ 8)) && PyData.leavesShortAll 8 (xs.map .str)) = true
    rw [h1, Bool.and_true, List.all_eq_true]
    intro c hc
    exact decide_eq_true (words_low x (h x (.head _)) c hc)
theorem showable_texts : ∀ (xs : List Str), PyData.showableAll (xs.map .str) = true
  | [] => rfl
  | x :: xs => showable_texts xs
theorem nodict_texts : ∀ (xs : List Str), PyData.hasDictAll (xs.map .str) = false
  | [] => rfl
  | x :: xs => nodict_texts xs
theorem depth_texts : ∀ (xs : List Str), PyData.depthAll (xs.map .str) ≤ 1
  | [] => by decide
  | x :: xs => by
    have h := depth_texts xs
    show max 0 (PyData.depthAll (xs.map .str)) ≤ 1
    omega
theorem textsD_told {xs : List Str} : (textsD xs).showable = true ∧ (textsD xs).hasDict = false ∧ (textsD xs).depth ≤ 2 := by
  have h := depth_texts xs
  refine ⟨showable_texts xs, nodict_texts xs, ?_⟩
  show PyData.depthAll (xs.map .str) + 1 ≤ 2
  omega
theorem textsD_bulk {xs : List Str} (h : ∀ x ∈ xs, x ∈ words) (hl : xs.length ≤ 10) : (textsD xs).bulk ≤ 90 := by
  have := bulk_texts xs h
  show PyData.bulkAll (xs.map .str) ≤ 90
  omega
theorem rows_all : ∀ (rs : List (List Str)), (∀ xs ∈ rs, (∀ x ∈ xs, x ∈ words) ∧ xs.length ≤ 10) →
    PyData.showableAll (rs.map textsD) = true ∧ PyData.hasDictAll (rs.map textsD) = false ∧ PyData.depthAll (rs.map textsD) ≤ 2 ∧ PyData.bulkAll (rs.map textsD) ≤ 91 * rs.length ∧ PyData.leavesShortAll 8 (rs.map textsD) = true ∧ ∀ t ∈ PyData.shownAll (rs.map textsD), Asc t
  | [], _ => ⟨rfl, rfl, Nat.zero_le _, Nat.le_refl _, rfl, fun _ h => nomatch h⟩
  | xs :: rs, h => by
    obtain ⟨h1, h2, h3, h4, h5, h6⟩ := rows_all rs fun ys hy => h ys (.tail _ hy)
    obtain ⟨g1, g2⟩ := h xs (.head _)
    obtain ⟨k1, k2, k3⟩ := textsD_told (xs := xs)
    have k4 := textsD_bulk g1 g2
    refine ⟨?_, ?_, ?_, ?_, ?_, fun t ht => ?_⟩
    · show ((textsD xs).showable && PyData.showableAll (rs.map textsD)) = true
      rw [k1, h1]
      rfl
    · show ((textsD xs).hasDict || PyData.hasDictAll (rs.map textsD)) = false
      rw [k2, h2]
      rfl
    · show max (textsD xs).depth (PyData.depthAll (rs.map textsD)) ≤ 2
      omega
    · show (textsD xs).bulk + 1 + PyData.bulkAll (rs.map textsD) ≤ 91 * (rs.length + 1)
      omega
    · show (PyData.leavesShortAll 8 (xs.map .str) && PyData.leavesShortAll 8 (rs.map textsD)) = true
      rw [short_texts xs g1, h5]
      rfl
    · have ht' : t ∈ (textsD xs).shown :: PyData.shownAll (rs.map textsD) := ht
      rcases List.mem_cons.mp ht' with rfl | ht'
      · exact asc_texts g1
      · exact h6 t ht'
theorem told_rows (rs : List (List Str)) (h : ∀ xs ∈ rs, (∀ x ∈ xs, x ∈ words) ∧ xs.length ≤ 10) (hl : rs.length ≤ 4) : Told (.list (rs.map textsD)) := by
  obtain ⟨h1, h2, h3, h4, h5, h6⟩ := rows_all rs h
  have hb := PyData.shown_le_bulk 8 (Nat.le_refl _) (.list (rs.map textsD)) h5
  have hb2 : (PyData.list (rs.map textsD)).bulk ≤ 91 * rs.length := h4
  refine ⟨⟨h1, h2, ?_, ?_⟩, (good_str (n := 0) (asc_ok ?_)).shaped (by decide)⟩
  · rw [sizeLine_eq]
    omega
  · show PyData.depthAll (rs.map textsD) + 1 ≤ 64
    omega
  · show Asc (listText (PyData.shownAll (rs.map textsD)))
    exact asc_list h6
theorem told_row (xs : List Str) (h : (∀ x ∈ xs, x ∈ words) ∧ xs.length ≤ 10) : Told (textsD xs) := by
  have hb := PyData.shown_le_bulk 8 (Nat.le_refl _) (textsD xs) (short_texts xs h.1)
  have hb2 := textsD_bulk h.1 h.2
  obtain ⟨k1, k2, k3⟩ := textsD_told (xs := xs)
  refine ⟨⟨k1, k2, ?_, by omega⟩, (good_str (n := 0) (asc_ok (asc_texts h.1))).shaped (by decide)⟩
  rw [sizeLine_eq]
  omega
end K12
set_option Elab.async false
set_option linter.all false
set_option maxRecDepth 100000
set_option maxHeartbeats 4000000
namespace K12
open PySem PySem.Spec PyProof.Rows L2 Tr
variable [Tabbed]
local macro_rules | `(tactic| walk_at "tr") => `(tactic| simp only [wOwn, wRet, wRetN, wExpr, wAsg, wSet, wSetN, wPar, wParV0, wParN0, wAugI, wgNil, wgCons, wCall, wCall0, wCallM, wCallN, wIxO, wFn, wFn1, wFnN, wTuple1, wAppend, wPopAt, wSetO, wNeO, wIsN, wTup, wLst, wYes, wRep, wSliceL, wSliceT, wRev, wRevT, wIsLT, wIs1, wNeg, wChainI, wMinT, wCallRev, ownAt, asInt, asNat, asList, asTuple, someOf, at0, at1, at2, at3, wIf, wB, wOp, wOpN, wName, wLook, wN, wC, wAnd, wOr, wNot, wAndV, wOrV, wNotV, wSeq, wNext, wIfS, wNil, wCons, wPart, wgSeq, gvName, wTurn, wipeE, gI, gI0, gEq, gNe, gLen, gIx, gInt, gAbs, gMin2, gList, gTup1, gMulS, gAll, gCatL, gCatT, isNone, startE, startM, List.map_cons, List.map_nil, List.length_cons, List.length_nil, List.cons_append, List.nil_append, List.getElem?_cons_zero, List.getElem?_cons_succ, List.set_cons_zero, List.set_cons_succ, List.replicate, List.length_map, if_true, if_false, Bool.false_eq_true, reduceIte, List.mem_cons, List.not_mem_nil, or_false, forall_eq, forall_eq_or_imp, false_implies, implies_true, true_and, and_true, Option.bind_some, Option.map_some, Option.map_none, Int.reduceLT, Int.reduceLE, Int.reduceToNat, Int.toNat_zero, Int.toNat_one, Int.toNat_natCast, Nat.reduceAdd, Nat.reduceLT, decide_true, List.set, Int.add_zero, Int.zero_add])
section
variable {P : Program} {w : World} {K : PySem.W.Frag} {mg : Str → Option Value} {base : Heap}
theorem texts_shaped {fs : List Str} (h : ∀ x ∈ fs, okS x) : SeqAt.shaped (.list (fs.map .str)) = true := (good_list (n := 1) fun d hd => by
  obtain ⟨x, m, rfl⟩ := List.mem_map.mp hd
  exact good_str (h x m).1).shaped (by decide)
/-- the names that are not yet there -/
def tAdd : TSm := fun cs ds Q => ∃ (b : Bool) (fs ns : List Str), cs = fs.map .str ∧ ds = [seqOf b (ns.map .str)] ∧ (∀ x ∈ fs, okS x) ∧ (∀ x ∈ ns, okS x) ∧ fs.length + ns.length ≤ 1000 ∧ Q .none ((addNew fs ns).map .str)
theorem ok_add_new (T : Top K mg) : FnOk P w K mg base (L2.CX P w) 1 T.a_add_new T.d_add_new ["found", "names"] (spM K 1 tAdd) := by
  refine fn_mut T.F_add_new sc_add_new rfl fun c A o s H E hr => ?_
  have nd := sc_add_new.nd
  have hu5 : (A.deeper (envOfC "add_new" (defScope s_add_new) s.heap.objs.size T.a_add_new c)).units + 65 < cLine := by have := hr.un; omega
  refine ⟨_, _, (svs_one (sv_for (ev_name 1) (gv_name 2 nd) (svs_one (sv_if (et_notInR hu5 (ev_name 2) (er_name 0)) (svs_one (sv_append 0 (ev_name 2))) svs_nil)) PassesOwn.never rfl)), fun cs ds P' hl hT => ?_⟩
  obtain ⟨b, fs, ns, rfl, rfl, hf, hn, hz, q⟩ := hT
  walk_at "tr"
  show ∃ tupS : Bool, _
  refine ⟨b, ?_⟩
  have key : ∀ ρ, (∃ t, ρ = [Sl.own true ((addNew fs ns).map .str), .val (seqOf b (ns.map .str)), t]) → ownAt ρ 0 fun m cs' => m = true ∧ P' .none cs' := fun ρ hI => by
    obtain ⟨t, rfl⟩ := hI
    exact ⟨rfl, q⟩
  walk_at "tr"
  refine ⟨ns.map .str, rfl, fun k ρ => ∃ t, ρ = [.own true ((addNew fs (ns.take k)).map .str), .val (seqOf b (ns.map .str)), t], ⟨_, rfl⟩, fun k x ρ hx hI => ?_, fun ρ hI => ?_⟩
  · obtain ⟨t, rfl⟩ := hI
    obtain ⟨y, rfl, hy⟩ : ∃ y : Str, x = .str y ∧ ns[k]? = some y := by
      rw [List.getElem?_map] at hx
      cases e : ns[k]? with
      | none => rw [e] at hx; cases hx
      | some y => rw [e] at hx; exact ⟨y, (Option.some.inj hx).symm, rfl⟩
    have my := List.mem_of_getElem? hy
    have hk : k < ns.length := (List.getElem?_eq_some_iff.mp hy).1
    have okf : ∀ x ∈ addNew fs (ns.take k), okS x := fun x h => (addNew_mem _ _ h).elim (hf x) fun h => hn x (List.mem_of_mem_take h)
    have hlen := addNew_le (ns.take k) fs
    rw [List.length_take] at hlen
    refine Tr.Later.now ?_
    walk_at "tr"
    refine ⟨false, _, rfl, shaped_str (hn y my), texts_shaped okf, ?_⟩
    rw [any_texts]
    have st : addNew fs (ns.take (k + 1)) = addOne (addNew fs (ns.take k)) y := by rw [take_one hy, addNew_one]
    rw [st]
    by_cases e : y ∈ addNew fs (ns.take k)
    · rw [decide_eq_true e]
      unfold addOne
      rw [if_pos e]
      show (if (!true) = true then _ else _)
      rw [if_neg (by decide)]
      refine Tr.Later.now ?_
      walk_at "tr"
      exact ⟨_, rfl⟩
    · rw [decide_eq_false e]
      unfold addOne
      rw [if_neg e, List.map_append]
      show (if (!false) = true then _ else _)
      rw [if_pos (by decide)]
      refine Tr.Later.now ?_
      walk_at "tr"
      exact ⟨by rw [sizeLine_eq]; omega, _, rfl⟩
  · refine key ρ ?_
    rw [List.length_map, List.take_length] at hI
    exact hI
end
end K12
set_option Elab.async false
set_option linter.all false
set_option maxRecDepth 100000
set_option maxHeartbeats 4000000
namespace K12
open PySem PySem.Spec PyProof.Rows L2 Tr
variable [Tabbed]
local macro_rules | `(tactic| walk_at "tr") => `(tactic| simp only [wOwn, wRet, wRetN, wExpr, wAsg, wSet, wSetN, wPar, wParV0, wParN0, wAugI, wgNil, wgCons, wCall, wCall0, wCallM, wCallN, wIxO, wFn, wFn1, wFnN, wTuple1, wAppend, wPopAt, wSetO, wNeO, wIsN, wTup, wLst, wYes, wRep, wSliceL, wSliceT, wRev, wRevT, wIsLT, wIs1, wNeg, wChainI, wMinT, wCallRev, ownAt, asInt, asNat, asList, asTuple, someOf, at0, at1, at2, at3, wIf, wB, wOp, wOpN, wName, wLook, wN, wC, wAnd, wOr, wNot, wAndV, wOrV, wNotV, wSeq, wNext, wIfS, wNil, wCons, wPart, wgSeq, gvName, wTurn, wipeE, gI, gI0, gEq, gNe, gLen, gIx, gInt, gAbs, gMin2, gList, gTup1, gMulS, gAll, gCatL, gCatT, isNone, startE, startM, List.map_cons, List.map_nil, List.length_cons, List.length_nil, List.cons_append, List.nil_append, List.getElem?_cons_zero, List.getElem?_cons_succ, List.set_cons_zero, List.set_cons_succ, List.replicate, List.length_map, if_true, if_false, Bool.false_eq_true, reduceIte, List.mem_cons, List.not_mem_nil, or_false, forall_eq, forall_eq_or_imp, false_implies, implies_true, true_and, and_true, Option.bind_some, Option.map_some, Option.map_none, Int.reduceLT, Int.reduceLE, Int.reduceToNat, Int.toNat_zero, Int.toNat_one, Int.toNat_natCast, Nat.reduceAdd, Nat.reduceLT, decide_true, List.set, Int.add_zero, Int.zero_add])
section
variable {P : Program} {w : World} {K : PySem.W.Frag} {mg : Str → Option Value} {base : Heap}
def tRow : TSn := fun ds Q => ∃ (b c : Bool) (p : Plot) (xs : List Str), p.Ok ∧ (∀ x ∈ xs, x ∈ p.owns) ∧ xs.length ≤ 100 ∧ ds = [plotT b p, seqOf c (xs.map .str)] ∧ Q ((rowOf p xs).map .str)
theorem walk_end {p : Plot} {k a : Nat} {fs : List Str} (h : fs.length ≤ a) : walkRow p k a fs = fs := by
  cases k with
  | zero => rfl
  | succ k =>
    unfold walkRow
    rw [List.getElem?_eq_none h]
theorem gIx_needs (b : Bool) (l : Lib) {Q : PyData → Prop} (h : Q (seqOf b (l.needs.map .str))) : gIx (libT b l) (.int 1) Q := by
  cases b <;> exact h
theorem ok_row (T : Top K mg) : FnOk P w K mg base (L2.CX P w) 2 T.a_row T.d_row ["program", "names"] (spN K 2 tRow) := by
  refine fn_new T.F_row sc_row rfl fun c A o s H E hr => ?_
  have nd := sc_row.nd
  refine ⟨_, _, (svs_cons (sv_for (ev_name 1) (gv_name 2 nd) (svs_one (sv_expr (ev_call (ok_lib_named T) (hr.mono (by decide)) T.m_lib_named T.F_lib_named.kp T.B_lib_named (ea_cons (ev_name 0) (ea_cons (ev_name 2) ea_nil))))) PassesOwn.never rfl)
      (svs_cons (sv_setN 3 nd (en_lst ea_nil))
      (svs_cons (sv_expr (ev_callM 3 (ok_add_new T) (hr.mono (by decide)) T.m_add_new T.F_add_new.kp T.B_add_new (ea_cons (ev_name 1) ea_nil)))
      (svs_cons (sv_set 4 nd ev_int)
      (svs_cons (sv_while (et_lt (ev_name 4) (ev_len T.b_len (er_name 3))) (svs_cons (sv_set 5 nd (ev_call (ok_lib_named T) (hr.mono (by decide)) T.m_lib_named T.F_lib_named.kp T.B_lib_named (ea_cons (ev_name 0) (ea_cons (ev_ixO 3 (ev_name 4)) ea_nil))))
        (svs_cons (sv_expr (ev_callM 3 (ok_add_new T) (hr.mono (by decide)) T.m_add_new T.F_add_new.kp T.B_add_new (ea_cons (ev_ix (ev_name 5) ev_int) ea_nil)))
        (svs_one (sv_augI 4 nd ev_int)))) PassesOwn.never)
      (svs_one (sv_retN (en_own 3)))))))), fun ds P' hl hT => ?_⟩
  obtain ⟨b, c, p, xs, hp, hx, hxl, rfl, q⟩ := hT
  have hf := fine_of hp
  have g0 : ∀ x ∈ addNew [] xs, x ∈ p.owns := fun x h => (addNew_mem _ _ h).elim (fun z => nomatch z) (hx x)
  have n0 : (addNew [] xs).Nodup := addNew_nd _ _ .nil
  walk_at "tr"
  show ∃ tupS : Bool, _
  refine ⟨c, ?_⟩
  walk_at "tr"
  refine ⟨xs.map .str, rfl, fun k ρ => ∃ t, ρ = [.val (plotT b p), .val (seqOf c (xs.map .str)), t, .un, .un, .un], ⟨_, rfl⟩, fun k x ρ hk hI => ?_, fun ρ hI => ?_⟩
  · obtain ⟨t, rfl⟩ := hI
    obtain ⟨y, rfl, my⟩ : ∃ y : Str, x = .str y ∧ y ∈ xs := by
      obtain ⟨y, m, e⟩ := List.mem_map.mp (List.mem_of_getElem? hk)
      exact ⟨y, e.symm, m⟩
    refine Tr.Later.now ?_
    walk_at "tr"
    obtain ⟨l, i, hi, rfl, _⟩ := find_lib (hx y my)
    exact ⟨b, p, l, i, hf, hi, rfl, _, rfl⟩
  · obtain ⟨t, rfl⟩ := hI
    refine Tr.Later.now ?_
    walk_at "tr"
    refine ⟨by decide, ?_⟩
    refine Tr.Later.now ?_
    walk_at "tr"
    refine ⟨c, [], xs, rfl, rfl, (fun x h => nomatch h), fun x h => own_ok hp (hx x h), by rw [List.length_nil]; omega, ?_⟩
    refine Tr.Later.now ?_
    walk_at "tr"
    refine Tr.Later.now ?_
    walk_at "tr"
    refine ⟨fun m ρ => ∃ (a : Nat) (fs : List Str) (t2 t5 : Sl), ρ = [.val (plotT b p), .val (seqOf c (xs.map .str)), t2, .own false (fs.map .str), .val (.int a), t5] ∧ m = 100 - a ∧ a ≤ fs.length ∧ fs.Nodup ∧ (∀ x ∈ fs, x ∈ p.owns) ∧ walkRow p (100 - a) a fs = rowOf p xs,
      ⟨100, 0, addNew [] xs, _, _, rfl, rfl, Nat.zero_le _, n0, g0, rfl⟩, fun m ρ hI => ?_⟩
    obtain ⟨a, fs, t2, t5, rfl, rfl, hle, hnd, hown, hwk⟩ := hI
    have hfl : fs.length ≤ 10 := Nat.le_trans (nd_le _ _ hnd hown) (owns_len hp)
    walk_at "tr"
    by_cases e : a < fs.length
    · rw [if_pos (by simpa using e)]
      have ha : fs[a]? = some fs[a] := List.getElem?_eq_getElem e
      obtain ⟨l, i, hi, el, en⟩ := find_lib (hown _ (List.getElem_mem e))
      have st : walkRow p (100 - (a + 1)) (a + 1) (addNew fs l.needs) = rowOf p xs := by
        rw [← hwk, ← en, show 100 - a = (100 - (a + 1)) + 1 by omega]
        conv => rhs; unfold walkRow
        rw [ha]
      refine Tr.Later.now ?_
      walk_at "tr"
      rw [show atI (fs.map PyData.str) (a : Int) = some (.str fs[a]) from atI_nat (by rw [List.getElem?_map, ha]; rfl)]
      refine ⟨b, p, l, i, hf, hi, by rw [el], ?_⟩
      refine Tr.Later.now ?_
      walk_at "tr"
      refine gIx_needs b l ?_
      refine ⟨b, fs, l.needs, rfl, rfl, fun x h => own_ok hp (hown x h), fun x h => own_ok hp (needs_own hp (x := fs[a]) x (by rw [en]; exact h)), ?_, ?_⟩
      · have := ((hp.libs.1 l (List.mem_of_getElem? hi)).1).needs.2
        omega
      refine Tr.Later.now ?_
      walk_at "tr"
      have own2 : ∀ x ∈ addNew fs l.needs, x ∈ p.owns := fun x h => (addNew_mem _ _ h).elim (hown x) fun h => needs_own hp (x := fs[a]) x (by rw [en]; exact h)
      refine ⟨100 - (a + 1), by omega, a + 1, addNew fs l.needs, _, _, rfl, rfl, Nat.le_trans e (addNew_len _ _), addNew_nd _ _ hnd, own2, st⟩
    · rw [if_neg (by simpa using e)]
      refine Tr.Later.now ?_
      walk_at "tr"
      rw [walk_end (by omega)] at hwk
      rw [hwk]
      exact q
end
end K12
set_option Elab.async false
set_option linter.all false
set_option maxRecDepth 100000
set_option maxHeartbeats 4000000
namespace K12
open PySem PySem.Spec PyProof.Rows L2 Tr
variable [Tabbed]
local macro_rules | `(tactic| walk_at "tr") => `(tactic| simp only [wOwn, wRet, wRetN, wExpr, wAsg, wSet, wSetN, wPar, wParV0, wParN0, wAugI, wgNil, wgCons, wCall, wCall0, wCallM, wCallN, wIxO, wFn, wFn1, wFnN, wTuple1, wAppend, wPopAt, wSetO, wNeO, wIsN, wTup, wLst, wYes, wRep, wSliceL, wSliceT, wRev, wRevT, wIsLT, wIs1, wNeg, wChainI, wMinT, wCallRev, ownAt, asInt, asNat, asList, asTuple, someOf, at0, at1, at2, at3, wIf, wB, wOp, wOpN, wName, wLook, wN, wC, wAnd, wOr, wNot, wAndV, wOrV, wNotV, wSeq, wNext, wIfS, wNil, wCons, wPart, wgSeq, gvName, wTurn, wipeE, gI, gI0, gEq, gNe, gLen, gIx, gInt, gAbs, gMin2, gList, gTup1, gMulS, gAll, gCatL, gCatT, isNone, startE, startM, List.map_cons, List.map_nil, List.length_cons, List.length_nil, List.cons_append, List.nil_append, List.getElem?_cons_zero, List.getElem?_cons_succ, List.set_cons_zero, List.set_cons_succ, List.replicate, List.length_map, if_true, if_false, Bool.false_eq_true, reduceIte, List.mem_cons, List.not_mem_nil, or_false, forall_eq, forall_eq_or_imp, false_implies, implies_true, true_and, and_true, Option.bind_some, Option.map_some, Option.map_none, Int.reduceLT, Int.reduceLE, Int.reduceToNat, Int.toNat_zero, Int.toNat_one, Int.toNat_natCast, Nat.reduceAdd, Nat.reduceLT, decide_true, List.set, Int.add_zero, Int.zero_add])
section
variable {P : Program} {w : World} {K : PySem.W.Frag} {mg : Str → Option Value} {base : Heap}
def firstOf (p : Plot) : List Str := match p.libs with
  | [] => []
  | l :: _ => l.own :: p.early
theorem first_own {p : Plot} (hp : p.Ok) : ∀ x ∈ firstOf p, x ∈ p.owns := by
  intro x hx
  unfold firstOf at hx
  split at hx
  · cases hx
  · rename_i l ls e
    rcases List.mem_cons.mp hx with rfl | hx
    · unfold Plot.owns
      rw [e]
      exact .head _
    · exact hp.soon x hx
theorem first_len {p : Plot} (hp : p.Ok) : (firstOf p).length ≤ 11 := by
  unfold firstOf
  split
  · decide
  · have := hp.early.2
    rw [List.length_cons]
    omega
def tFirst : TSn := fun ds Q => ∃ (b : Bool) (p : Plot), p.Ok ∧ ds = [plotT b p] ∧ Q ((rowOf p (firstOf p)).map .str)
theorem ok_first_row (T : Top K mg) : FnOk P w K mg base (L2.CX P w) 3 T.a_first_row T.d_first_row ["program"] (spN K 1 tFirst) := by
  refine fn_new T.F_first_row sc_first_row rfl fun c A o s H E hr => ?_
  have nd := sc_first_row.nd
  refine ⟨_, _, (svs_cons (sv_asg (ev_name 0) (gv_seq rfl (gvs_cons (gv_name 1 nd) (gvs_cons (gv_name 2 nd) (gvs_cons (gv_name 3 nd) gvs_nil)))))
      (svs_cons (sv_set 4 nd (ev_ix (ev_ix (ev_name 1) ev_int) ev_int))
      (svs_one (sv_retN (en_call (ok_row T) (hr.mono (by decide)) T.m_row T.F_row.kp T.B_row (ea_cons (ev_name 0) (ea_cons (en_lst (ea_cons (ev_name 4) (ea_star (ev_name 2) ea_nil))).ev ea_nil))))))), fun ds P' hl hT => ?_⟩
  obtain ⟨b, p, hp, rfl, q⟩ := hT
  obtain ⟨l, ls, e⟩ : ∃ l ls, p.libs = l :: ls := by
    have := hp.libs.2.2.2
    cases h : p.libs with
    | nil => rw [h] at this; cases this
    | cons l ls => exact ⟨l, ls, rfl⟩
  have ef : firstOf p = l.own :: p.early := by
    unfold firstOf
    rw [e]
  have he : (l.own :: p.early).length ≤ 100 := by
    have := first_len hp
    rw [ef] at this
    omega
  rw [ef] at q
  have ho := first_own hp
  rw [ef] at ho
  cases b
  · simp only [plotT, seqOf]
    walk_at "tr"
    refine ⟨rfl, ?_⟩
    refine Tr.Later.now ?_
    walk_at "tr"
    rw [e]
    walk_at "tr"
    simp only [libT, seqOf]
    walk_at "tr"
    refine Tr.Later.now ?_
    walk_at "tr"
    unfold wStar
    walk_at "tr"
    simp only [seqItems]
    refine ⟨by rw [sizeLine_eq]; have := hp.early.2; simp; omega, false, false, p, l.own :: p.early, hp, ho, he, ?_, q⟩
    rw [List.append_nil]
    simp only [plotT, seqOf, e, libT, List.map_cons, if_true, if_false, Bool.false_eq_true, reduceIte]
  · simp only [plotT, seqOf]
    walk_at "tr"
    refine ⟨rfl, ?_⟩
    refine Tr.Later.now ?_
    walk_at "tr"
    rw [e]
    walk_at "tr"
    simp only [libT, seqOf]
    walk_at "tr"
    refine Tr.Later.now ?_
    walk_at "tr"
    unfold wStar
    walk_at "tr"
    simp only [seqItems]
    refine ⟨by rw [sizeLine_eq]; have := hp.early.2; simp; omega, true, false, p, l.own :: p.early, hp, ho, he, ?_, q⟩
    rw [List.append_nil]
    simp only [plotT, seqOf, e, libT, List.map_cons, if_true, if_false, Bool.false_eq_true, reduceIte]
end
end K12
set_option Elab.async false
set_option linter.all false
set_option maxRecDepth 100000
set_option maxHeartbeats 2000000
/-! TrU: tuple += tuple; sorted of lists of trees; dicts of texts that stand still: in, not in, sorted; is not None; constants of a module that are tuples of one text -/
namespace Tr
open PySem PySem.Spec PyProof.Rows L2
variable [Tabbed]
/-! ### += of tuples -/
theorem no_iadd_tuple : typeLookup (.type "tuple") (dunderI "add") = pure none := by
  rw [typeLookup_type, builtinLookup_eq_fast]
  kernel_rfl
theorem ip_catA {X : Cx} : PIp X .Add (rCatA X.K) := by
  intro pins s σ H x y v u Q I rx ry h
  obtain ⟨a, b, xs, ys, rfl, rfl, ha, hb, hz, q0, q1, q2⟩ := h
  cases rx
  cases ry
  obtain ⟨its, r1, p1, _⟩ := I.tuple ha
  obtain ⟨its2, r2, p2, _⟩ := I.tuple hb
  obtain ⟨⟨c1, d1, t1, l1⟩, g1, e1, n1, f1⟩ := id p1
  obtain ⟨⟨c2, d2, t2, l2⟩, g2, e2, n2, f2⟩ := id p2
  simp only at e1 f1 e2 f2
  subst e1 f1 e2 f2
  have road : ∀ {Sx : PySem.Spec}, Meets (Builtin.«tuple.__add__» ⟨[.ref a, .ref b], []⟩) Sx → Sx X.A (wants (EP X pins σ Q) X.xe) s → wpAny (model X.prog X.w) X.A (inplaceOp .Add (.ref a) (.ref b)) (EP X pins σ Q) X.xe s := fun g hS =>
    wpAny_inplaceOp_concat ⟨_, g1, rfl⟩ ⟨_, g2, rfl⟩ no_iadd_tuple noFill_tuple_add seq_tuple_add (call_meets F.slot_tuple_add ⟨_, g1, rfl⟩ F.entry_tuple_add (F.args_tuple_add_2 _ _) g hS)
  have l1 := r1.length
  have l2 := r2.length
  by_cases hx : its = []
  · exact road (tuple_addW0 a b its.toArray its2.toArray n1 n2 _ _ _ _ (by simp [hx])) ⟨g1, g2, ⟨.ref b, H, I, rfl, q0 (r1.nil_iff.mp hx)⟩⟩
  · by_cases hy : its2 = []
    · exact road (tuple_addW1 a b its.toArray its2.toArray n1 n2 _ _ _ _ (by simpa using hx) (by simp [hy])) ⟨g1, g2, ⟨.ref a, H, I, rfl, q1 (fun z => hx (r1.nil_iff.mpr z)) (r2.nil_iff.mp hy)⟩⟩
    · refine road (tuple_addW2 a b its.toArray its2.toArray n1 n2 _ _ _ _ (by simpa using hx) (by simpa using hy) (by simp only [List.size_toArray]; omega)) ⟨g1, g2, ?_⟩
      refine ⟨.ref s.heap.objs.size, _, I.laid (t' := s.toks) (o := .tup (xs ++ ys)) (fun b ob q => Heap.get?_push_of_some _ q) (Nat.le_refl _) ?_, rfl, q2 (fun w => hx (r1.nil_iff.mpr w)) (fun w => hy (r2.nil_iff.mpr w)) _ (I.hok.fresh (Nat.le_refl _))⟩
      refine ⟨by rw [List.length_append]; exact hz, its ++ its2, r1.append r2, ?_⟩
      have e : its.toArray ++ its2.toArray = (its ++ its2).toArray := by simp
      rw [e]
      exact IsTup.new _ _
def wAugT (i : Nat) (we : W1) : WS := fun ρ N => wLook i ρ fun x _ => asTuple x fun ds => we ρ fun d ρ' => asTuple d fun es => ds.length + es.length ≤ sizeLine ∧ N.nx (ρ'.set i (.val (.tuple (ds ++ es))))
section
variable {X : Cx} {e : Expr} {te : TE} {we : W1} {pos : Pos}
theorem sv_augT (i : Nat) {x : Str} {pos' : Pos} (hN : X.N.Nodup) (he : EV X e te we) (hi : X.N[i]? = some x := by rfl) (hx : Loc X.env.scope x := by first | exact Or.inl rfl | exact Or.inr rfl) (hf : X.fn x = true ∨ X.env.scope.names.lookup x = some .local := by first | exact .inl rfl | exact .inr rfl | assumption) :
    SV X (.AugAssign (.Name x pos') .Add e pos) (tAug i te (rCatA X.K)) (wAugT i we) := ⟨ps_aug hN hi hx he.pe ip_catA hf, fun F ρ N σ S H D hw R T => by
  unfold wAugT at hw
  obtain ⟨ds, e1, hw⟩ : ∃ ds, ρ[i]? = some (.val (.tuple ds)) ∧ we ρ fun d ρ' => asTuple d fun es => ds.length + es.length ≤ sizeLine ∧ N.nx (ρ'.set i (.val (.tuple (ds ++ es)))) := by
    unfold wLook at hw
    split at hw
    · obtain ⟨ds, rfl, hw⟩ := hw.out
      exact ⟨ds, by assumption, hw⟩
    · obtain ⟨ds, z, _⟩ := hw.out
      cases z
    · exact hw.elim
  obtain ⟨v, g1, g2⟩ := R.at_ i _ e1
  refine ⟨v, g1, he.sd F ρ _ σ S H _ hw R fun d ρ1 v1 S1 H1 h1 R1 s1 d1 => ?_⟩
  obtain ⟨es, rfl, hz, hp⟩ := h1.out
  cases dp_mono s1 _ v g2 with
  | @tup a xs _ sq1 da1 =>
    cases d1 with
    | @tup b ys _ sq2 da2 =>
      have n1 := da1.len
      have n2 := da2.len
      refine ⟨a, b, xs, ys, rfl, rfl, same_sqT R1.sub sq1, same_sqT R1.sub sq2, by omega, fun z => ?_, fun _ z => ?_, fun _ _ p n => ?_⟩
      · have z' : ds = [] := List.eq_nil_of_length_eq_zero (by rw [← n1, z]; rfl)
        subst z'
        exact T.nx _ _ S1 H1 hp (R1.set i (.tup sq2 da2)) s1
      · have z' : es = [] := List.eq_nil_of_length_eq_zero (by rw [← n2, z]; rfl)
        subst z'
        rw [List.append_nil] at hp
        exact T.nx _ _ S1 H1 hp (R1.set i (.tup sq1 da1)) s1
      · have sn : Same S1 (upd S1 p (.tup (xs ++ ys))) := same_new (same_none R1.sub n)
        exact T.nx _ _ _ _ hp ((R1.new n _).set i (.tup (.inl (.inl upd_same)) (dqAll_mono sn (da1.append da2)))) (s1.trans sn)⟩
/-! ### sorted of a list of trees -/
abbrev rSortedD (K : PySem.W.Frag) : List V → Hp → VK → Prop := fun vs H Q => ∃ (S : Hp) (a : Addr) (xs : List V) (ds : List PyData), vs = [.ref a] ∧ Same S H ∧ SqL K H a xs ∧ DqAll K S xs ds ∧ ndAll ds = true ∧ PySem.W.AllAlike ds ∧ PySem.W.Sortable ds ∧ ds.length ≤ 4000 ∧ (∀ d ∈ ds, d.depth ≤ 60) ∧
  ∀ ys p, DqAll K S ys (ds.mergeSort (PySem.W.dataLe false id)) → H p = none → Q (.ref p) (upd H p (.lst ys))
theorem each_of {K : PySem.W.Frag} {S : Hp} {R : Value → PyData → Prop} : ∀ {ds : List PyData} {xs : List V} {us : List Value}, DqAll K S xs ds → Vals xs us → (∀ x u d, Dq K S x d → RelV x u → R u d) → PySem.W.EachIs R us ds
  | [], _, _, h, r, _ => by
    cases h
    cases r
    exact .nil
  | d :: ds, _, _, h, r, f => by
    cases h with
    | cons h1 h2 =>
      cases r with
      | cons r1 r2 => exact .cons (f _ _ _ h1 r1) (each_of h2 r2 f)
theorem of_each {K : PySem.W.Frag} {S : Hp} {us : List Value} {ds : List PyData} (h : PySem.W.EachIs (fun u d => ∃ x, Dq K S x d ∧ RelV x u) us ds) : ∃ ys, DqAll K S ys ds ∧ Vals ys us := by
  induction h with
  | nil => exact ⟨[], .nil, .nil⟩
  | cons h _ ih =>
    obtain ⟨x, h1, h2⟩ := h
    obtain ⟨ys, h3, h4⟩ := ih
    exact ⟨x :: ys, .cons h1 h3, .cons h2 h4⟩
theorem nd_in : ∀ {ds : List PyData}, ndAll ds = true → ∀ d ∈ ds, nd d = true
  | [], _, d, h => by cases h
  | x :: xs, n, d, h => by
    have n' : nd x = true ∧ ndAll xs = true := by
      have z : (nd x && ndAll xs) = true := n
      simpa using z
    rcases List.mem_cons.mp h with rfl | h
    · exact n'.1
    · exact nd_in n'.2 d h
theorem call_sortedT (hu : X.A.units + 64 < cLine) : CallR X (.builtin "sorted") (rSortedD X.K) := by
  intro pins s σ H vs us Q I r h
  obtain ⟨S, a, xs, ds, rfl, sm, sq, hd, hn, hal, hso, hlen, hdep, q⟩ := h
  obtain ⟨u, rfl, ru⟩ := vals1 r
  cases ru
  obtain ⟨its, hv, hpl, _⟩ := I.list sq
  have hlist : s.heap.IsList a its.toArray := hpl.isList
  have both : PySem.W.EachIs (fun u d => ∃ x, Dq X.K S x d ∧ RelV x u) its ds := each_of hd hv fun x u d h1 h2 => ⟨x, h1, h2⟩
  have rd : PySem.W.EachIs (fun u d => ∃ as, Reads s.heap u d as) its ds := by
    refine (PySem.W.each_mem both).mono fun u d hh => ?_
    obtain ⟨⟨x, h1, h2⟩, hm⟩ := hh
    exact Dp.reads I d x u (dq_p d x (nd_in hn d hm) (dq_mono sm h1)) h2
  refine PySem.W.sorted_data (enc := id) (bs := ds) (R := fun u d => ∃ x, Dq X.K S x d ∧ RelV x u) hlist both rd (by rw [List.map_id]; exact hal) (by rw [List.map_id]; exact hso) (by rw [sizeLine_eq]; omega) (fun b hb => ?_) fun out ho eo => ?_
  · have := hdep b hb
    show X.A.units + 2 + b.depth < cLine
    omega
  · obtain ⟨ys, h1, h2⟩ := of_each eo
    obtain ⟨c, hc⟩ := PyProof.Rows.sortedAll_at s.heap its out.toArray
    have fr : H (s.heap.objs.size + 1) = none := I.hok.fresh (Nat.le_succ _)
    have ly : ys.length = ds.length := by rw [h1.len, List.length_mergeSort]
    refine ⟨.ref (s.heap.objs.size + 1), upd H (s.heap.objs.size + 1) (.lst ys), I.laid (t' := s.toks) (fun b ob q => PyProof.Rows.sortedAll_old q) (Nat.le_succ _) ⟨by rw [ly, sizeLine_eq]; omega, out, c, h2, hc⟩, rfl, q ys _ h1 fr⟩
def wSortedD (we : W1) : WA := fun ρ P => we ρ fun d ρ1 => ∃ ds, d = .list ds ∧ ndAll ds = true ∧ PySem.W.AllAlike ds ∧ PySem.W.Sortable ds ∧ ds.length ≤ 4000 ∧ (∀ x ∈ ds, x.depth ≤ 60) ∧ P (ds.mergeSort (PySem.W.dataLe false id)) ρ1
theorem en_sortedD {p : Pos} (hu : X.A.units + 64 < cLine) (hm : X.mg "sorted" = none) (he : EV X e te we) (hg : Gl X "sorted" := by rfl) (hs : starEach [e] X.env = (false, eval e X.env) :: starEach [] X.env := by rfl) (hpl : (backTo pos (starEach [] X.env)).any (·.1) = false := by rfl) :
    EN X (.Call (.Name "sorted" p) [e] [] pos) (tCB (rSortedD X.K) (tCons te tNil)) (wSortedD we) := ⟨pe_callB (call_sortedT hu) hg hm (by decide +kernel) (pa_cons he.pe pa_nil hs) (by decide) (by decide) hs hpl, fun F ρ P σ S H Q hw R q =>
  he.sd F ρ _ σ S H _ hw R fun d ρ1 v S1 H1 h1 R1 s1 d1 => by
    obtain ⟨ds, rfl, hn, hal, hso, hlen, hdep, hp⟩ := h1
    cases d1 with
    | lst sq da => exact ⟨S1, _, _, ds, rfl, R1.sub, same_sqL R1.sub sq, da, hn, hal, hso, hlen, hdep, fun ys p hy n => q _ ρ1 p ys S1 _ hp (R1.lay n _) s1 (R1.bare n) hy⟩⟩
end
/-! ### dicts of texts that stand still -/
theorem get_dc {K : PySem.W.Frag} {S : Hp} : ∀ {kvs : List (Key × V)} {m : List (Str × PyData)} (x : Str), kvs.map Prod.fst = m.map (fun p => (Sum.inr p.1 : Key)) → DqAll K S (kvs.map Prod.snd) (m.map Prod.snd) → (valV kvs (Sum.inr x : Key)).isSome = decide (x ∈ m.map Prod.fst)
  | [], [], x, _, _ => by simp [valV]
  | [], _ :: _, _, h, _ => by cases h
  | _ :: _, [], _, h, _ => by cases h
  | (k, v) :: kvs, (y, d) :: m, x, h, hd => by
    have h' : k :: kvs.map Prod.fst = (Sum.inr y : Key) :: m.map (fun p => (Sum.inr p.1 : Key)) := h
    injection h' with e1 e2
    subst e1
    have hd' : DqAll K S (v :: kvs.map Prod.snd) (d :: m.map Prod.snd) := hd
    cases hd' with
    | cons q1 q2 =>
      by_cases c : y = x
      · subst c
        rw [valV_pos rfl]
        simp
      · rw [valV_neg (fun z => c (Sum.inr.inj z)), get_dc x e2 q2]
        simp [Ne.symm c]
def wInD (neg : Bool) (wa wb : W1) : W1 := fun ρ P => wa ρ fun x ρ1 => wb ρ1 fun y ρ2 => ∃ (z : Str) (m : List (Str × PyData)), x = .str z ∧ y = dcT m ∧ P (.bool (if neg = true then !decide (z ∈ m.map Prod.fst) else decide (z ∈ m.map Prod.fst))) ρ2
section
variable {X : Cx} {a b e : Expr} {ta tb te : TE} {wa wb we : W1} {pos : Pos}
theorem snd_inD {K : PySem.W.Frag} (ha : Snd K ta wa) (hb : Snd K tb wb) : Snd K (tDIn ta tb) (wInD false wa wb) := fun F ρ P σ S H Q hw R q =>
  ha F ρ _ σ S H _ hw R fun x ρ1 vx S1 H1 h1 R1 s1 d1 => hb F ρ1 _ σ S1 H1 _ h1 R1 fun y ρ2 vy S2 H2 h2 R2 s2 d2 => by
    obtain ⟨z, m, rfl, rfl, hp⟩ := h2
    cases d1
    obtain ⟨p, kvs, rfl, k1, k2, k3⟩ := d2.dcInv
    refine ⟨p, _, rfl, .inl ⟨kvs, Sum.inr z, .inl (R2.sub _ _ k1), rfl, rfl⟩, ?_⟩
    rw [get_dc z k2 k3]
    exact q _ ρ2 _ S2 H2 hp R2 (s1.trans s2) (.bl _)
theorem snd_notInD {K : PySem.W.Frag} (ha : Snd K ta wa) (hb : Snd K tb wb) : Snd K (tDNotIn ta tb) (wInD true wa wb) := fun F ρ P σ S H Q hw R q =>
  ha F ρ _ σ S H _ hw R fun x ρ1 vx S1 H1 h1 R1 s1 d1 => hb F ρ1 _ σ S1 H1 _ h1 R1 fun y ρ2 vy S2 H2 h2 R2 s2 d2 => by
    obtain ⟨z, m, rfl, rfl, hp⟩ := h2
    cases d1
    obtain ⟨p, kvs, rfl, k1, k2, k3⟩ := d2.dcInv
    refine ⟨p, _, rfl, .inl ⟨kvs, Sum.inr z, .inl (R2.sub _ _ k1), rfl, rfl⟩, ?_⟩
    rw [get_dc z k2 k3]
    exact q _ ρ2 _ S2 H2 hp R2 (s1.trans s2) (.bl _)
theorem ev_inD (hu : X.A.units + 1 < cLine) (ha : EV X a ta wa) (hb : EV X b tb wb) (hm : behindInMarks .In b = false := by rfl) : EV X (.Compare a [.In] [b] pos) (tDIn ta tb) (wInD false wa wb) := ⟨pe_cmp (pc_din hu ha.pe hb.pe) hm, snd_inD ha.sd hb.sd⟩
theorem et_inD (hu : X.A.units + 1 < cLine) (ha : EV X a ta wa) (hb : EV X b tb wb) (hm : behindInMarks .In b = false := by rfl) : ET X (.Compare a [.In] [b] pos) (tB (tDIn ta tb)) (wB (wInD false wa wb)) := ⟨pt_cmp (pc_din hu ha.pe hb.pe) hm, snd_B (snd_inD ha.sd hb.sd)⟩
theorem et_notInD (hu : X.A.units + 1 < cLine) (ha : EV X a ta wa) (hb : EV X b tb wb) (hm : behindInMarks .NotIn b = false := by rfl) : ET X (.Compare a [.NotIn] [b] pos) (tB (tDNotIn ta tb)) (wB (wInD true wa wb)) := ⟨pt_cmp (pc_dnotin hu ha.pe hb.pe) hm, snd_B (snd_notInD ha.sd hb.sd)⟩
def wSortedK (we : W1) : WA := fun ρ P => we ρ fun d ρ1 => ∃ m : List (Str × PyData), d = dcT m ∧ m.length < 64 ∧ ∀ ys : List Str, ys.Perm (m.map Prod.fst) → sortedS ys = true → P (ys.map .str) ρ1
abbrev rSortedK : List V → Hp → VK → Prop := fun xs H Q => ∃ (a : Addr) (kvs : List (Key × V)) (ks : List Str), xs = [.ref a] ∧ Rd H a (.dK kvs) ∧ kvs.map (·.1) = ks.map Sum.inr ∧ ks.length < 64 ∧
  ∀ ys p, ys.Perm ks → sortedS ys = true → H p = none → Q (.ref p) (upd H p (.lst (ys.map V.str)))
/-- sorted(d) -/
theorem en_sortedK {p : Pos} (hc : X.calm = true) (hm : X.mg "sorted" = none) (he : EV X e te we) (hg : Gl X "sorted" := by rfl) (hs : starEach [e] X.env = (false, eval e X.env) :: starEach [] X.env := by rfl) (hpl : (backTo pos (starEach [] X.env)).any (·.1) = false := by rfl) :
    EN X (.Call (.Name "sorted" p) [e] [] pos) (tCB rSortedK (tCons te tNil)) (wSortedK we) := ⟨pe_callB (call_sortedD hc) hg hm (by decide +kernel) (pa_cons he.pe pa_nil hs) (by decide) (by decide) hs hpl, fun F ρ P σ S H Q hw R q =>
  he.sd F ρ _ σ S H _ hw R fun d ρ1 v S1 H1 h1 R1 s1 d1 => by
    obtain ⟨m, rfl, hlen, hp⟩ := h1
    obtain ⟨p, kvs, rfl, k1, k2, k3⟩ := d1.dcInv
    refine ⟨p, kvs, m.map Prod.fst, rfl, .inl (R1.sub _ _ k1), by rw [List.map_map]; exact k2, by rw [List.length_map]; exact hlen, fun ys p2 h1 h2 n => q _ ρ1 p2 _ S1 _ (hp ys h1 h2) (R1.lay n _) s1 (R1.bare n) (dq_strs _)⟩⟩
/-! ### is not None -/
def rNotN (K : PySem.W.Frag) : R2 := fun x y H Q => ∃ d, Dq K H x d ∧ y = .non ∧ Q (.bl (!isNone d)) H
theorem isN_val {K : PySem.W.Frag} {H : Hp} {x : V} {d : PyData} {v : Value} (hd : Dq K H x d) (r : RelV x v) : plainIs v .none = true ∧ (v == Value.none) = isNone d := by
  cases hd with
  | non => cases r; exact ⟨rfl, rfl⟩
  | bl c => cases (show v = Value.bool c from r); exact ⟨rfl, rfl⟩
  | int i => obtain ⟨t, rfl⟩ := r; exact ⟨rfl, rfl⟩
  | str x => obtain ⟨t, rfl⟩ := r; exact ⟨rfl, rfl⟩
  | lst _ _ => cases r; exact ⟨rfl, rfl⟩
  | tup _ _ => cases r; exact ⟨rfl, rfl⟩
  | ob _ _ _ => cases r; exact ⟨rfl, rfl⟩
  | dc _ _ _ _ => cases r; exact ⟨rfl, rfl⟩
theorem op_notN : OpR X (compareOp .IsNot) (rNotN X.K) := fun pins s σ H x y v u Q I rx ry h => by
  obtain ⟨d, hd, rfl, q⟩ := h
  cases (show u = Value.none from ry)
  obtain ⟨h1, h2⟩ := isN_val hd rx
  exact wpAny_isNot_plain h1 (by rw [h2]; exact ⟨.bl _, H, I, rfl, q⟩)
theorem et_isN {j : Nat} {p2 : Pos} (ha : EV X a ta wa) : ET X (.Compare a [.Is] [.Constant .none j p2] pos) (tB (tIsN ta)) (wB (wIsN wa)) := ⟨pt_cmp (pc_isN ha.pe) (by rfl), snd_B (ev_isN (pos := pos) (j := j) (pos' := p2) ha).sd⟩
def wNotN (wa : W1) : W1 := fun ρ P => wa ρ fun x ρ1 => P (.bool (!isNone x)) ρ1
theorem et_isNotN {j : Nat} {p2 : Pos} (ha : EV X a ta wa) : ET X (.Compare a [.IsNot] [.Constant .none j p2] pos) (tTest (tOp (rNotN X.K) ta (tC .non))) (wB (wNotN wa)) :=
  ⟨pt_cmpR op_notN ha.pe pe_non (nomark _), snd_Test fun F ρ P σ S H Q hw R q => ha.sd F ρ _ σ S H _ hw R fun x ρ1 vx S1 H1 h1 R1 s1 d1 => ⟨x, dp_mono R1.sub x vx d1, rfl, q _ ρ1 _ S1 H1 h1 R1 s1 (.bl _)⟩⟩
end
end Tr
set_option Elab.async false
set_option linter.all false
set_option maxRecDepth 100000
set_option maxHeartbeats 2000000
/-! TrV: dicts of texts that a slot fills and then lets stand still -/
namespace Tr
open PySem PySem.Spec PyProof.Rows L2
variable [Tabbed]
/-- a module's constant that is a tuple of one text -/
theorem ev_one1 {X : Cx} {x z : Str} {a : Addr} {od : Option Addr} {sl : Array (Option Value)} {n : Nat} {t : Tok} {pos : Pos} (hm : X.mg x = some (.ref a)) (hl : X.K.lookup a = some ⟨.type "tuple", od, .seq #[.str z t] n, sl⟩) (hg : Gl X x := by rfl) (hdb : (x == ("__debug__" : Str)) = false := by decide) :
    EV X (.Name x pos) (tC (.ref a)) (wC (.tuple [.str z])) :=
  ev_const hm (show RelV (.ref a) (.ref a) from rfl) (fun S => .tup (.inr ⟨_, _, _, hl, rfl, rfl, (by rw [sizeLine_eq]; show 1 ≤ 16777216; omega), .cons (show RelV (.str z) (.str z t) from ⟨_, rfl⟩) .nil⟩) (.cons (.str _) .nil)) hg hdb
def add1 (f : List Str) (x : Str) : List Str := if x ∈ f then f else f ++ [x]
def ofKeys (ks : List Str) : List (Str × PyData) := ks.map (fun k => (k, .bool true))
def kvsOf (ks : List Str) : List (Key × V) := ks.map (fun k => (Sum.inr k, V.bl true))
theorem put_ofKeys (fs : List Str) (x : Str) : putK (kvsOf fs) (Sum.inr x : Key) (V.bl true) = kvsOf (add1 fs x) := by
  have key : ((kvsOf fs).any fun kv => decide (kv.1 = (Sum.inr x : Key))) = decide (x ∈ fs) := by
    induction fs with
    | nil => rfl
    | cons y r ih =>
      have e : kvsOf (y :: r) = (Sum.inr y, V.bl true) :: kvsOf r := rfl
      rw [e, List.any_cons, ih]
      by_cases c : y = x
      · subst c
        simp
      · have c' : ¬ (Sum.inr y : Key) = Sum.inr x := fun z => c (Sum.inr.inj z)
        simp [c', Ne.symm c]
  unfold putK add1
  rw [key]
  by_cases c : x ∈ fs
  · rw [if_pos (by simp [c]), if_pos c]
    unfold kvsOf
    rw [List.map_map]
    refine List.map_congr_left fun y hy => ?_
    show (if (Sum.inr y : Key) = Sum.inr x then ((Sum.inr y : Key), V.bl true) else (Sum.inr y, V.bl true)) = _
    split <;> rfl
  · rw [if_neg (by simp [c]), if_neg c]
    unfold kvsOf
    simp
theorem add1_len (f : List Str) (x : Str) : (add1 f x).length ≤ f.length + 1 := by
  unfold add1
  split <;> simp
theorem fold_len : ∀ (ks f : List Str), (ks.foldl add1 f).length ≤ f.length + ks.length
  | [], f => by simp
  | x :: ks, f => by
    have h1 := fold_len ks (add1 f x)
    have h2 := add1_len f x
    simp only [List.foldl_cons, List.length_cons]
    omega
theorem kvs_keys (ks : List Str) : (kvsOf ks).map Prod.fst = (ofKeys ks).map (fun p => (Sum.inr p.1 : Key)) := by
  unfold kvsOf ofKeys
  rw [List.map_map, List.map_map]
  rfl
theorem kvs_vals {K : PySem.W.Frag} {S : Hp} : ∀ ks : List Str, DqAll K S ((kvsOf ks).map Prod.snd) ((ofKeys ks).map Prod.snd)
  | [] => .nil
  | _ :: ks => .cons (.bl true) (kvs_vals ks)
theorem Rep.bareDk {K : PySem.W.Frag} {F : Fm} {S H : Hp} {σ : L2.St} {ρ : En} (R : Rep K F S H σ ρ) {D : Addr} (n : H D = none) (ks : List Str) : BareO K F S (upd H D (.dK (kvsOf ks))) ρ (.dk D (ofKeys ks)) where
  at_ := ⟨_, upd_same, kvs_keys ks, kvs_vals ks⟩
  s := fun b hb => by
    rw [show b = D from hb]
    exact ⟨same_none R.sub n, R.h0 n⟩
  ap := fun j o2 e b hb z => by
    obtain ⟨x, hx, _⟩ := R.oSolid e hb
    rw [show b = D from z, n] at hx
    cases hx
  pm := rfl
def wSetDc (i ix : Nat) (wi : W1) : WS := fun ρ N => wi ρ fun d ρ1 => ∃ ks : List Str, d = .list (ks.map .str) ∧ ks.length ≤ 1000 ∧ ix < ρ1.length ∧ ∀ p, N.nx (ρ1.set i (.obj (.dk p (ofKeys (ks.foldl add1 [])))))
section
variable {X : Cx} {pos : Pos}
theorem ps_dcTo {i : Nat} {y : Str} {py cp : Pos} {kx vx tg iter : Expr} {ifs : List Expr} {scope : Scope} {own : List (Str × Nat)} {wi : TI} {g : TG} {tt : TT} {tk tv : TE} (hc : X.calm = true) (hN : X.N.Nodup) (hy : X.N[i]? = some y) (hyl : X.env.scope.names.lookup y = some .local)
    (hsw : swapsWith (.DictComp kx vx [⟨tg, iter, ifs, 0⟩] scope cp) (some (.Name y py)) pos.line X.env = pure true) (hi : PI X tg iter wi) (ok : BlkOk X.N X.env.scope scope own)
    (hg : ∀ (t : Shared) (G : Hp) (C : Addr) (cl : List (Str × Addr)) (fp : List Addr), PG (X.blk t G scope (compEnvC scope cl C X.env) fp) tg g) (ht : ∀ (t : Shared) (G : Hp) (C : Addr) (cl : List (Str × Addr)) (fp : List Addr), PTs (X.blk t G scope (compEnvC scope cl C X.env) fp) ifs tt)
    (hk : ∀ (t : Shared) (G : Hp) (C : Addr) (cl : List (Str × Addr)) (fp : List Addr), PE (X.blk t G scope (compEnvC scope cl C X.env) fp) kx tk)
    (he : ∀ (t : Shared) (G : Hp) (C : Addr) (cl : List (Str × Addr)) (fp : List Addr), PE (X.blk t G scope (compEnvC scope cl C X.env) fp) vx tv) (hs : ∀ x, foldedSetIterable iter X.env x = pure x) :
    PS X (.Assign [.Name y py] (.DictComp kx vx [⟨tg, iter, ifs, 0⟩] scope cp) pos) (tAsg (tDc wi g tt tk tv (own.map (·.2))) (gName i)) := by
  refine ⟨fun pins t0 σ G0 D I h => ?_⟩
  rw [exec_Assign_Name_used _ _ _ _ hsw]
  refine wpAny_bind (wpAny_standAt (wpAny_bind ?_))
  show wpAny _ X.A (do let _ ← comprehension (.DictComp kx vx [⟨tg, iter, ifs, 0⟩] scope cp) scope X.env (firstIterPos [⟨tg, iter, ifs, 0⟩] cp) newDict false (eval iter X.env) (some (assign (.Name y py) X.env))) _ _ t0
  refine wpAny_bind (thn (dc_core (Q := fun x G1 => gName i x σ G1 D.nx) (Qf := fun _ t' => SP X pins D .next t') hc hN I hi ok hg ht hk he hs h fun Dd C t' m G' I' q hn ff => ?_) fun _ t' hq => wpAny_pure (wpAny_pure hq))
  show wpAny _ _ (assign (.Name y py) X.env (.ref Dd)) _ _ _
  obtain ⟨e0, e1, e2, e3, e4, e5⟩ := ff
  refine wpAny_assign_Name (store_ok2 (v := V.ref Dd) I' hN hy (.inl hyl) rfl (fun t2 I2 ⟨b, sb, hb⟩ => ?_) (.inr hyl))
  have ne : C ≠ b := hb.elim (fun z => by rw [z]; exact e1) fun z w => e4 y b z w.symm
  exact ⟨m, hn.sameBut sb ne, fun h3 sb3 => ⟨_, G', I2.turned (t' := t2.toks) (fun b o hb2 e => (sb3.2 b hb2).trans e) e0 e1 e3 e4 e5, q⟩⟩
theorem sw_dc {kx vx : Expr} {gs : List Comprehension} {scope : Scope} {cp py : Pos} {y : Str} {l : Nat} {env : Env} (hk : env.scope.kind = .function) (hy : env.scope.names.lookup y = some .local) (hl : (py.line == cp.line) = true)
    (ha : (scope.names.any fun p => p.1 == y && (p.2 == .local || p.2 == .cell)) = false) : swapsWith (.DictComp kx vx gs scope cp) (some (.Name y py)) l env = pure true := by
  have h1 : env.kindOf y = some .local := hy
  have h2 : env.blockKind = .function := by
    unfold Env.blockKind
    rw [hk]
    rfl
  unfold swapsWith
  simp only [h2, h1, ha, Expr.pos, hl]
  rfl
/-- y = {x: True for x in list} -/
theorem sv_setDc (i ix : Nat) {y x : Str} {it : Expr} {ti : TE} {wi : W1} {scope : Scope} {p1 p2 p3 py cp : Pos} {j : Nat} (hc : X.calm = true) (hN : X.N.Nodup) (hi : EV X it ti wi) (ok : BlkOk X.N X.env.scope scope [(x, ix)])
    (hg : ∀ (s : Shared) (H : Hp) (C : Addr) (cl : List (Str × Addr)) (fp : List Addr), GV (X.blk s H scope (compEnvC scope cl C X.env) fp) (.Name x p3) (gName ix) [ix] (gvName ix))
    (hk : ∀ (s : Shared) (H : Hp) (C : Addr) (cl : List (Str × Addr)) (fp : List Addr), EV (X.blk s H scope (compEnvC scope cl C X.env) fp) (.Name x p1) (tVar ix) (wName ix))
    (hy : X.N[i]? = some y := by rfl) (hyl : X.env.scope.names.lookup y = some .local := by rfl) (hs : swapsWith (.DictComp (.Name x p1) (.Constant (.bool true) j p2) [⟨.Name x p3, it, [], 0⟩] scope cp) (some (.Name y py)) pos.line X.env = pure true := by exact sw_dc rfl rfl rfl (by decide +kernel))
    (hs2 : ∀ v, foldedSetIterable it X.env v = pure v := by intro _; rfl) :
    SV X (.Assign [.Name y py] (.DictComp (.Name x p1) (.Constant (.bool true) j p2) [⟨.Name x p3, it, [], 0⟩] scope cp) pos) (tAsg (tDc (iList X.K ti) (gName ix) tYes (tVar ix) (tC (.bl true)) [ix]) (gName i)) (wSetDc i ix wi) :=
  ⟨ps_dcTo (own := [(x, ix)]) hc hN hy hyl hs (pi_list hi.pe) ok (fun s H C cl fp => (hg s H C cl fp).pg) (fun s H C cl fp => pts_nil) (fun s H C cl fp => (hk s H C cl fp).pe) (fun s H C cl fp => pe_bl) hs2, fun F ρ N σ S H D hw R T =>
  hi.sd F ρ _ σ S H _ hw R fun d ρ1 v S1 H1 h1 R1 s1 d1 => by
    obtain ⟨ks, rfl, hlen, hix, hp⟩ := h1
    cases d1 with
    | @lst a xs _ sq da =>
      have ex : xs = ks.map V.str := dqs_of_texts ks da
      subst ex
      refine ⟨a, rfl, ⟨_, same_sqL R1.sub sq⟩, fun Dd n => ⟨fun k m G => m = ks.length - k ∧ k ≤ ks.length ∧ G = upd H1 Dd (.dK (kvsOf ((ks.take k).foldl add1 []))), ⟨ks.length, by simp, Nat.zero_le _, rfl⟩, ?_⟩⟩
      rintro k m G ⟨rfl, hk', rfl⟩
      have sq' : SqL X.K (upd H1 Dd (.dK (kvsOf ((ks.take k).foldl add1 [])))) a (ks.map V.str) := same_sqL (same_laid R1.sub n) sq
      by_cases hlt : k < ks.length
      · refine .inr ⟨⟨_, V.str ks[k], sq', by simp [hlt]⟩, fun G' => G' = upd H1 Dd (.dK (kvsOf ((ks.take (k + 1)).foldl add1 []))), fun G' e => ⟨ks.length - (k + 1), by omega, rfl, hlt, e⟩, fun z G' yl => ?_⟩
        obtain ⟨rfl, yl⟩ := yl
        have ez : z = V.str ks[k] := by
          have := yl _ sq'
          rw [List.getElem?_map, List.getElem?_eq_getElem hlt] at this
          exact (Option.some.inj this).symm
        subst ez
        have hl : ix < (wipe σ [ix]).length := by rw [wipe_length, R1.len]; exact hix
        have ag : wipe ((wipe σ [ix]).set ix (some (V.str ks[k]))) [ix] = wipe σ [ix] := wipe_agr (ts := [ix]) ⟨List.length_set, fun q hq => List.getElem?_set_ne fun w => hq (by rw [← w]; exact List.mem_singleton.mpr rfl)⟩ fun q hq => hq
        refine ⟨ag, ?_⟩
        simp only [tYes, if_true]
        refine ⟨_, List.getElem?_set_self hl, ?_⟩
        refine ⟨_, Sum.inr ks[k], rfl, upd_same, ?_, ?_⟩
        · have h2 := fold_len (ks.take k) []
          unfold kvsOf
          rw [List.length_map, sizeLine_eq]
          have h3 : (ks.take k).length ≤ k := by rw [List.length_take]; omega
          simp only [List.length_nil] at h2
          omega
        · rw [upd_upd, put_ofKeys]
          show _ = upd H1 Dd _
          rw [show ks.take (k + 1) = ks.take k ++ [ks[k]] from (List.take_succ_eq_append_getElem hlt), List.foldl_append]
          rfl
      · have e : k = ks.length := by omega
        subst e
        refine .inl ⟨⟨_, sq', by simp⟩, ?_⟩
        rw [List.take_length]
        exact T.nx _ _ S1 _ (hp Dd) ((R1.lay n _).setO i (R1.bareDk n _)) s1⟩
def wDput (i ix : Nat) : WS := fun ρ N => objAt ρ i fun o => ∃ p fs z, o = .dk p (ofKeys fs) ∧ ρ[ix]? = some (.val (.str z)) ∧ fs.length ≤ 1000 ∧ N.nx (ρ.set i (.obj (.dk p (ofKeys (add1 fs z)))))
theorem look_keys : ∀ {fs : List Str} {kvs : List (Key × V)} {K : PySem.W.Frag} {S : Hp}, kvs.map Prod.fst = (ofKeys fs).map (fun p => (Sum.inr p.1 : Key)) → DqAll K S (kvs.map Prod.snd) ((ofKeys fs).map Prod.snd) → kvs = kvsOf fs
  | [], [], _, _, _, _ => rfl
  | [], _ :: _, _, _, h, _ => by cases h
  | _ :: _, [], _, _, h, _ => by cases h
  | f :: fs, (k, v) :: kvs, K, S, h, hd => by
    have h' : k :: kvs.map Prod.fst = (Sum.inr f : Key) :: (ofKeys fs).map (fun p => (Sum.inr p.1 : Key)) := h
    injection h' with e1 e2
    subst e1
    have hd' : DqAll K S (v :: kvs.map Prod.snd) (.bool true :: (ofKeys fs).map Prod.snd) := hd
    cases hd' with
    | cons q1 q2 =>
      cases q1
      rw [look_keys e2 q2]
      rfl
/-- y[x] = True -/
theorem sv_dput (i ix : Nat) {y x : Str} {py px p2 ps : Pos} {j : Nat} (hu : X.A.units + 1 < cLine) (hN : X.N[i]? = some y := by rfl) (hv : Vis X.env.scope y := by first | exact Or.inl rfl | exact Or.inr (Or.inl rfl) | exact Or.inr (Or.inr rfl)) (hd : (y == ("__debug__" : Str)) = false := by decide)
    (hcd : (y == ("__classdict__" : Str)) = false := by decide) (hN2 : X.N[ix]? = some x := by rfl) (hv2 : Vis X.env.scope x := by first | exact Or.inl rfl | exact Or.inr (Or.inl rfl) | exact Or.inr (Or.inr rfl)) (hd2 : (x == ("__debug__" : Str)) = false := by decide)
    (hcd2 : (x == ("__classdict__" : Str)) = false := by decide) (hs : swapsWith (.Constant (.bool true) j p2) (some (.Subscript (.Name y py) (.Name x px) ps)) pos.line X.env = pure false := by rfl) :
    SV X (.Assign [.Subscript (.Name y py) (.Name x px) ps] (.Constant (.bool true) j p2) pos) (sDPut (tVar i) (tVar ix) (tC (.bl true))) (wDput i ix) := ⟨ps_dput hu (pe_var hN hv hd hcd) (pe_var hN2 hv2 hd2 hcd2) pe_bl hs, fun F ρ N σ S H D hw R T => by
  obtain ⟨o, e, p, fs, z, rfl, e2, hl, hp⟩ := hw.out
  obtain ⟨g1, ⟨kvs, k1, k2, k3⟩, g3, g4⟩ := R.obj.at_ i _ e
  obtain ⟨v2, hv2, dv⟩ := R.at_ ix _ e2
  cases dv
  have ek := look_keys k2 k3
  subst ek
  refine ⟨.ref p, g1, .str z, hv2, p, _, rfl, .inl ⟨kvsOf fs, Sum.inr z, k1, rfl, ?_, rfl⟩, T.nx _ _ S _ hp (R.pokeO e (o' := .dk p (ofKeys (add1 fs z))) rfl rfl ⟨_, upd_same, ?_, ?_⟩ (fun b hb => hb) g4) (Same.refl S)⟩
  · unfold kvsOf
    rw [List.length_map, sizeLine_eq]
    omega
  · rw [put_ofKeys]
    exact kvs_keys _
  · rw [put_ofKeys]
    exact kvs_vals _⟩
def wNameD (i : Nat) : W1 := fun ρ P => objAt ρ i fun o => ∃ p m, o = .dk p m ∧ P (dcT m) (ρ.set i .un)
/-- a slot's dict stands still from now on -/
theorem ev_nameD (i : Nat) {x : Str} (hN : X.N[i]? = some x := by rfl) (hv : Vis X.env.scope x := by first | exact Or.inl rfl | exact Or.inr (Or.inl rfl) | exact Or.inr (Or.inr rfl)) (hd : (x == ("__debug__" : Str)) = false := by decide) (hcd : (x == ("__classdict__" : Str)) = false := by decide) :
    EV X (.Name x pos) (tVar i) (wNameD i) := ⟨pe_var hN hv hd hcd, fun F ρ P σ S H Q hw R q => by
  obtain ⟨o, e, p, m, rfl, hp⟩ := hw.out
  obtain ⟨g1, ⟨kvs, k1, k2, k3⟩, g3, g4⟩ := R.obj.at_ i _ e
  have h0 : F.H0 p = none := g4
  have hs := (g3 p rfl).1
  have R1 : Rep X.K F S H σ (ρ.set i .un) := R.forget i
  have sn : Same S (upd S p (.dK kvs)) := same_new hs
  have ap : ∀ (j : Nat) (o2 : Ob), (ρ.set i .un)[j]? = some (.obj o2) → ¬ o2.M p := fun j o2 ej z => by
    rcases get_set ej with ⟨_, ej, _⟩ | ⟨hj, ej⟩
    · cases ej
    · exact R.obj.apart j i o2 _ hj ej e p z rfl
  refine ⟨.ref p, g1, q _ _ (.ref p) _ H hp (R1.stillO k1 .dK hs h0 (fun z => R.m0 p z h0) ap) sn (.dc (ks := m.map Prod.fst) upd_same (by rw [k2, List.map_map]; rfl) (dqAll_mono sn k3) rfl)⟩⟩
end
end Tr
set_option Elab.async false
set_option linter.all false
set_option maxRecDepth 100000
set_option maxHeartbeats 2000000
/-! TrW: the dict of a thing, its keys tuples of a text and an int: get, put, what is left of it, its items -/
namespace Tr
open PySem PySem.Spec PyProof.Rows L2
variable [Tabbed]
abbrev TD := List (List Key × PyData)
inductive TL (K : PySem.W.Frag) (S : Hp) : List (List Key × V) → TD → Prop
  | nil : TL K S [] []
  | cons {k : List Key} {v : V} {d : PyData} {kvs : List (List Key × V)} {l : TD} : Dq K S v d → TL K S kvs l → TL K S ((k, v) :: kvs) ((k, d) :: l)
section
variable {K : PySem.W.Frag} {S S' : Hp}
theorem TL.of : ∀ {kvs : List (List Key × V)} {l : TD}, kvs.map Prod.fst = l.map Prod.fst → DqAll K S (kvs.map Prod.snd) (l.map Prod.snd) → TL K S kvs l
  | [], [], _, _ => .nil
  | [], _ :: _, h, _ => by cases h
  | _ :: _, [], h, _ => by cases h
  | (k, v) :: kvs, (k', d) :: l, h, hd => by
    have h' : k :: kvs.map Prod.fst = k' :: l.map Prod.fst := h
    injection h' with e1 e2
    subst e1
    have hd' : DqAll K S (v :: kvs.map Prod.snd) (d :: l.map Prod.snd) := hd
    cases hd' with
    | cons q1 q2 => exact .cons q1 (TL.of e2 q2)
theorem TL.keys {kvs : List (List Key × V)} {l : TD} (h : TL K S kvs l) : kvs.map Prod.fst = l.map Prod.fst := by
  induction h with
  | nil => rfl
  | cons _ _ ih => rw [List.map_cons, List.map_cons, ih]
theorem TL.vals {kvs : List (List Key × V)} {l : TD} (h : TL K S kvs l) : DqAll K S (kvs.map Prod.snd) (l.map Prod.snd) := by
  induction h with
  | nil => exact .nil
  | cons q _ ih => exact .cons q ih
theorem TL.mono {kvs : List (List Key × V)} {l : TD} (e : Same S S') (h : TL K S kvs l) : TL K S' kvs l := by
  induction h with
  | nil => exact .nil
  | cons q _ ih => exact .cons (dq_mono e q) ih
theorem TL.len {kvs : List (List Key × V)} {l : TD} (h : TL K S kvs l) : kvs.length = l.length := by
  have := congrArg List.length h.keys
  simpa using this
theorem TL.at {kvs : List (List Key × V)} {l : TD} (h : TL K S kvs l) : ∀ {i : Nat} {k : List Key} {v : V}, kvs[i]? = some (k, v) → ∃ d, l[i]? = some (k, d) ∧ Dq K S v d := by
  induction h with
  | nil => intro i k v e; simp at e
  | cons q _ ih =>
    intro i k v e
    cases i with
    | zero =>
      simp only [List.getElem?_cons_zero, Option.some.injEq, Prod.mk.injEq] at e
      obtain ⟨rfl, rfl⟩ := e
      exact ⟨_, rfl, q⟩
    | succ i => exact ih (by simpa using e)
def getP (l : TD) (k : List Key) : Option PyData := (l.find? fun p => decide (p.1 = k)).map (·.2)
def putP (l : TD) (k : List Key) (d : PyData) : TD := if (l.any fun p => decide (p.1 = k)) = true then l.map (fun p => if p.1 = k then (p.1, d) else p) else l ++ [(k, d)]
theorem TL.get {kvs : List (List Key × V)} {l : TD} (h : TL K S kvs l) (k : List Key) : Dq K S ((valV kvs k).getD .non) ((getP l k).getD .none) := by
  induction h with
  | nil => exact .non
  | @cons k' v d kvs l q _ ih =>
    by_cases c : k' = k
    · rw [valV_pos c, show getP ((k', d) :: l) k = some d by simp [getP, c]]
      exact q
    · rw [valV_neg c, show getP ((k', d) :: l) k = getP l k by simp [getP, c]]
      exact ih
theorem TL.get? {kvs : List (List Key × V)} {l : TD} (h : TL K S kvs l) {k : List Key} {d : PyData} (e : getP l k = some d) : ∃ v, valV kvs k = some v ∧ Dq K S v d := by
  induction h with
  | nil => cases e
  | @cons k' v d' kvs l q _ ih =>
    by_cases c : k' = k
    · rw [show getP ((k', d') :: l) k = some d' by simp [getP, c]] at e
      cases e
      exact ⟨v, valV_pos c, q⟩
    · rw [show getP ((k', d') :: l) k = getP l k by simp [getP, c]] at e
      obtain ⟨w, h1, h2⟩ := ih e
      exact ⟨w, by rw [valV_neg c]; exact h1, h2⟩
theorem TL.any {kvs : List (List Key × V)} {l : TD} (h : TL K S kvs l) (k : List Key) : (kvs.any fun p => decide (p.1 = k)) = l.any fun p => decide (p.1 = k) := by
  induction h with
  | nil => rfl
  | cons _ _ ih => rw [List.any_cons, List.any_cons, ih]
theorem TL.put1 {kvs : List (List Key × V)} {l : TD} (h : TL K S kvs l) {k : List Key} {v : V} {d : PyData} (q : Dq K S v d) : TL K S (kvs.map fun kv => if kv.1 = k then (kv.1, v) else kv) (l.map fun p => if p.1 = k then (p.1, d) else p) := by
  induction h with
  | nil => exact .nil
  | @cons k' v' d' kvs l q' _ ih =>
    rw [List.map_cons, List.map_cons]
    by_cases c : k' = k
    · rw [if_pos c, if_pos c]
      exact .cons q ih
    · rw [if_neg c, if_neg c]
      exact .cons q' ih
theorem TL.snoc {kvs : List (List Key × V)} {l : TD} (h : TL K S kvs l) {k : List Key} {v : V} {d : PyData} (q : Dq K S v d) : TL K S (kvs ++ [(k, v)]) (l ++ [(k, d)]) := by
  induction h with
  | nil => exact .cons q .nil
  | cons q' _ ih => exact .cons q' ih
theorem TL.put {kvs : List (List Key × V)} {l : TD} (h : TL K S kvs l) {k : List Key} {v : V} {d : PyData} (q : Dq K S v d) : TL K S (putK kvs k v) (putP l k d) := by
  unfold putK putP
  rw [h.any k]
  split
  · exact h.put1 q
  · exact h.snoc q
end
/-- the key of a text and an int -/
def kSI (x : Str) (n : Int) : List Key := [.inr x, .inl n]
def wSlotGet (C : Addr) (i j k : Nat) (f : Str) : W1 := fun ρ P => insAt ρ i C fun _ fs _ kv => fs.lookup f = some .dic ∧ ∃ l x n, kv = some l ∧ ρ[j]? = some (.val (.str x)) ∧ ρ[k]? = some (.val (.int n)) ∧ P ((getP l (kSI x n)).getD .none) ρ
def wSlotPut (C : Addr) (i j k a : Nat) (f : Str) : WS := fun ρ N => insAt ρ i C fun p fs q kv => fs.lookup f = some .dic ∧ ∃ l x n d, kv = some l ∧ ρ[j]? = some (.val (.str x)) ∧ ρ[k]? = some (.val (.int n)) ∧ ρ[a]? = some (.val d) ∧ l.length ≤ 1000 ∧ N.nx (ρ.set i (.obj (.ins p C fs q (some (putP l (kSI x n) d)))))
section
variable {X : Cx} {pos : Pos} {C : Addr} {f s x y z : Str}
theorem two_le : (2 : Nat) ≤ sizeLine := by rw [sizeLine_eq]; omega
/-- self.f.get((x, n)) -/
theorem ev_slotGet (i j k : Nat) {px fp ap pa pb tp : Pos} {kk : Nat} (hu : X.A.units + 1 < cLine) (c : Cls X.K C) (n : NoAttr X.K C f)
    (hN : X.N[i]? = some s := by rfl) (hv : Vis X.env.scope s := by first | exact Or.inl rfl | exact Or.inr (Or.inl rfl) | exact Or.inr (Or.inr rfl)) (hd : (s == ("__debug__" : Str)) = false := by decide) (hcd : (s == ("__classdict__" : Str)) = false := by decide)
    (hN1 : X.N[j]? = some x := by rfl) (hv1 : Vis X.env.scope x := by first | exact Or.inl rfl | exact Or.inr (Or.inl rfl) | exact Or.inr (Or.inr rfl)) (hd1 : (x == ("__debug__" : Str)) = false := by decide) (hcd1 : (x == ("__classdict__" : Str)) = false := by decide)
    (hN2 : X.N[k]? = some y := by rfl) (hv2 : Vis X.env.scope y := by first | exact Or.inl rfl | exact Or.inr (Or.inl rfl) | exact Or.inr (Or.inr rfl)) (hd2 : (y == ("__debug__" : Str)) = false := by decide) (hcd2 : (y == ("__classdict__" : Str)) = false := by decide)
    (hb : attributeBase (.Name s px) f X.env (eval (.Name s px) X.env) = eval (.Name s px) X.env := by rfl)
    (m : M1 X (.Attribute (.Name s px) f fp) "get" ap (.Tuple [.Name x pa, .Name y pb] kk tp) pos := by exact ⟨by rfl, by rfl, by rfl, by rfl⟩)
    (hs1 : starEach [.Name x pa, .Name y pb] X.env = (false, eval (.Name x pa) X.env) :: starEach [.Name y pb] X.env := by rfl) (hs2 : starEach [.Name y pb] X.env = (false, eval (.Name y pb) X.env) :: starEach [] X.env := by rfl) :
    EV X (.Call (.Attribute (.Attribute (.Name s px) f fp) "get" ap) [.Tuple [.Name x pa, .Name y pb] kk tp] [] pos) (tDGet1 (tFld X.K (tVar i) f) (tTup (tCons (tVar j) (tCons (tVar k) tNil)))) (wSlotGet C i j k f) :=
  ⟨pe_dget1 hu (pe_fld (pe_var hN hv hd hcd) hb) (pe_tup (pa_cons (pe_var hN1 hv1 hd1 hcd1) (pa_cons (pe_var hN2 hv2 hd2 hcd2) pa_nil hs2) hs1)) m, fun F ρ P σ S H Q hw R q => by
  obtain ⟨p, fs, q', kv, e, hf, l, x, n', rfl, e1, e2, hp⟩ := hw.out
  obtain ⟨g1, ⟨⟨dx, fs', h1, h2⟩, h3⟩, g3, g4⟩ := R.obj.at_ i _ e
  obtain ⟨v, hv', hdv⟩ := h2.look hf
  cases (show v = .ref q' from hdv)
  obtain ⟨kvs, k1, k2, k3⟩ := h3 l rfl
  have tl := TL.of k2 k3
  obtain ⟨v1, a1, b1⟩ := R.at_ j _ e1
  obtain ⟨v2, a2, b2⟩ := R.at_ k _ e2
  cases b1
  cases b2
  refine ⟨.ref p, g1, p, C, dx, fs', .ref q', rfl, h1, c, n, hv', q', rfl, .inr ⟨kvs, .inl k1⟩, _, a1, _, a2, two_le, fun t nt => ⟨valV kvs (kSI x n'), .inr ⟨kvs, kSI x n', t, .inl ?_, rfl, upd_same, rfl⟩, ?_⟩⟩
  · rw [upd_ne (ne_of_none k1 nt)]
    exact k1
  · exact q _ ρ _ S _ hp (R.lay nt _) (Same.refl S) (tl.get _)⟩
/-- self.f[x, n] = y -/
theorem sv_slotPut (i j k a : Nat) {px fp pa pb tp ps pv : Pos} {kk : Nat} (hu : X.A.units + 1 < cLine) (c : Cls X.K C) (n : NoAttr X.K C f)
    (hN : X.N[i]? = some s := by rfl) (hv : Vis X.env.scope s := by first | exact Or.inl rfl | exact Or.inr (Or.inl rfl) | exact Or.inr (Or.inr rfl)) (hd : (s == ("__debug__" : Str)) = false := by decide) (hcd : (s == ("__classdict__" : Str)) = false := by decide)
    (hN1 : X.N[j]? = some x := by rfl) (hv1 : Vis X.env.scope x := by first | exact Or.inl rfl | exact Or.inr (Or.inl rfl) | exact Or.inr (Or.inr rfl)) (hd1 : (x == ("__debug__" : Str)) = false := by decide) (hcd1 : (x == ("__classdict__" : Str)) = false := by decide)
    (hN2 : X.N[k]? = some y := by rfl) (hv2 : Vis X.env.scope y := by first | exact Or.inl rfl | exact Or.inr (Or.inl rfl) | exact Or.inr (Or.inr rfl)) (hd2 : (y == ("__debug__" : Str)) = false := by decide) (hcd2 : (y == ("__classdict__" : Str)) = false := by decide)
    (hN3 : X.N[a]? = some z := by rfl) (hv3 : Vis X.env.scope z := by first | exact Or.inl rfl | exact Or.inr (Or.inl rfl) | exact Or.inr (Or.inr rfl)) (hd3 : (z == ("__debug__" : Str)) = false := by decide) (hcd3 : (z == ("__classdict__" : Str)) = false := by decide)
    (hb : attributeBase (.Name s px) f X.env (eval (.Name s px) X.env) = eval (.Name s px) X.env := by rfl)
    (hs : swapsWith (.Name z pv) (some (.Subscript (.Attribute (.Name s px) f fp) (.Tuple [.Name x pa, .Name y pb] kk tp) ps)) pos.line X.env = pure false := by rfl)
    (hs1 : starEach [.Name x pa, .Name y pb] X.env = (false, eval (.Name x pa) X.env) :: starEach [.Name y pb] X.env := by rfl) (hs2 : starEach [.Name y pb] X.env = (false, eval (.Name y pb) X.env) :: starEach [] X.env := by rfl) :
    SV X (.Assign [.Subscript (.Attribute (.Name s px) f fp) (.Tuple [.Name x pa, .Name y pb] kk tp) ps] (.Name z pv) pos) (sDPut (tFld X.K (tVar i) f) (tTup (tCons (tVar j) (tCons (tVar k) tNil))) (tVar a)) (wSlotPut C i j k a f) :=
  ⟨ps_dput hu (pe_fld (pe_var hN hv hd hcd) hb) (pe_tup (pa_cons (pe_var hN1 hv1 hd1 hcd1) (pa_cons (pe_var hN2 hv2 hd2 hcd2) pa_nil hs2) hs1)) (pe_var hN3 hv3 hd3 hcd3) hs, fun F ρ N σ S H D hw R T => by
  obtain ⟨p, fs, q', kv, e, hf, l, x, n', d, rfl, e1, e2, e3, hl, hp⟩ := hw.out
  obtain ⟨g1, ⟨⟨dx, fs', h1, h2⟩, h3⟩, g3, g4⟩ := R.obj.at_ i _ e
  obtain ⟨v, hv', hdv⟩ := h2.look hf
  cases (show v = .ref q' from hdv)
  obtain ⟨kvs, k1, k2, k3⟩ := h3 l rfl
  have tl := TL.of k2 k3
  obtain ⟨v1, a1, b1⟩ := R.at_ j _ e1
  obtain ⟨v2, a2, b2⟩ := R.at_ k _ e2
  obtain ⟨v3, a3, b3⟩ := R.at_ a _ e3
  cases b1
  cases b2
  refine ⟨v3, a3, .ref p, g1, p, C, dx, fs', .ref q', rfl, h1, c, n, hv', _, a1, _, a2, two_le, fun t nt => ?_⟩
  have npt : p ≠ t := ne_of_none h1 nt
  have nqt : q' ≠ t := ne_of_none k1 nt
  have npq : p ≠ q' := ne_of h1 k1 fun w => nomatch w
  refine ⟨q', _, rfl, .inr ⟨kvs, kSI x n', t, by rw [upd_ne nqt]; exact k1, rfl, upd_same, by rw [tl.len, sizeLine_eq]; omega, rfl⟩, T.nx _ _ S _ hp ((R.lay nt _).pokeO e (o' := .ins p C fs q' (some (putP l (kSI x n') d))) (.inr ⟨by simp, rfl⟩) rfl ⟨⟨dx, fs', ?_, h2⟩, fun l' hl' => ?_⟩ (fun b hb => ?_) trivial) (Same.refl S)⟩
  · rw [upd_ne npq, upd_ne npt]
    exact h1
  · cases hl'
    have tp := tl.put (k := kSI x n') b3
    exact ⟨_, upd_same, tp.keys, tp.vals⟩
  · rcases hb with hb | ⟨_, hb⟩
    · exact .inl hb
    · exact .inr ⟨by simp, hb⟩⟩
end
/-! ### what is left of the dict -/
def spLeft (K : PySem.W.Frag) (G : TD → List (Str × PyData) → TD → Prop) : Sp := fun vs H Q _ => ∃ S q v kvs l m l', vs = [.ref q, v] ∧ Same S H ∧ Found S H ∧ H q = some (.dT kvs) ∧ S q = none ∧ TL K S kvs l ∧ Dq K S v (dcT m) ∧ G l m l' ∧
  ∀ r S' H' kvs', H r = none → H' r = some (.dT kvs') → TL K S' kvs' l' → Same S S' → Same S' H' → (∀ b, S b = none → S' b ≠ none → H b = none) → Left H H' → S' r = none → Q (.ref r) H'
def wSetLeft (C : Addr) (i : Nat) (f : Str) (G : TD → List (Str × PyData) → TD → Prop) (we : W1) : WS := fun ρ N => insAt ρ i C fun p fs q kv => fs.lookup f = some .dic ∧ fs.length < 1000 ∧ noDic f fs ∧ (fs.map Prod.fst).Nodup ∧ we ρ fun d ρ1 => ρ1[i]? = some (.obj (.ins p C fs q kv)) ∧
  ∃ l m l', kv = some l ∧ d = dcT m ∧ G l m l' ∧ ∀ r, N.nx (ρ1.set i (.obj (.ins p C (putT f .dic fs) r (some l'))))
section
variable {X : Cx} {pos : Pos} {C : Addr} {f s x : Str} {k : Nat} {fa : Addr} {fd : FuncData} {ps : List Str} {G : TD → List (Str × PyData) → TD → Prop} {e : Expr} {te : TE} {we : W1}
/-- self.f = g(self.f, e) -/
theorem sv_setLeft (i : Nat) {p0 px px2 fp fp2 cp : Pos} (Gf : FnOk X.prog X.w X.K X.mg X.base (L2.CX X.prog X.w) k fa fd ps (spLeft X.K G)) (hr : Room k X.A) (hm : X.mg x = some (.ref fa)) (hk : PySem.W.keepIn X.K (.ref fa) = true) (hbi : Binds X.K fd ps []) (c : Cls X.K C) (n : NoAttr X.K C f) (he : EV X e te we)
    (hN : X.N[i]? = some s := by rfl) (hv : Vis X.env.scope s := by first | exact Or.inl rfl | exact Or.inr (Or.inl rfl) | exact Or.inr (Or.inr rfl)) (hd : (s == ("__debug__" : Str)) = false := by decide) (hcd : (s == ("__classdict__" : Str)) = false := by decide)
    (hb : attributeBase (.Name s px) f X.env (eval (.Name s px) X.env) = eval (.Name s px) X.env := by rfl)
    (hs : swapsWith (.Call (.Name x p0) [.Attribute (.Name s px) f fp, e] [] cp) (some (.Attribute (.Name s px2) f fp2)) pos.line X.env = pure false := by rfl)
    (hg : Gl X x := by rfl) (hdb : (x == ("__debug__" : Str)) = false := by decide) (hs1 : starEach [.Attribute (.Name s px) f fp, e] X.env = (false, eval (.Attribute (.Name s px) f fp) X.env) :: starEach [e] X.env := by rfl) (hs2 : starEach [e] X.env = (false, eval e X.env) :: starEach [] X.env := by rfl)
    (hpl : (backTo cp (starEach [e] X.env)).any (·.1) = false := by rfl) :
    SV X (.Assign [.Attribute (.Name s px2) f fp2] (.Call (.Name x p0) [.Attribute (.Name s px) f fp, e] [] cp) pos) (sFld X.K (tVar i) (tCall (spLeft X.K G) [] E0 (tCons (tFld X.K (tVar i) f) (tCons te tNil))) f) (wSetLeft C i f G we) :=
  ⟨ps_fld (pe_var hN hv hd hcd) (pe_call Gf hr hg hm hk hbi .nil passL (pa_cons (pe_fld (pe_var hN hv hd hcd) hb) (pa_cons he.pe pa_nil hs2) hs1) hdb hs1 hpl) hs, fun F ρ N σ S H D hw R T => by
  obtain ⟨p, fs, q', kv, e0, hf, hlen, nod, un, hw⟩ := hw.out
  obtain ⟨g1, ⟨⟨dx, fs', h1, h2⟩, h3⟩, g3, g4⟩ := R.obj.at_ i _ e0
  obtain ⟨v, hv', hdv⟩ := h2.look hf
  cases (show v = .ref q' from hdv)
  refine ⟨.ref p, g1, p, C, dx, fs', .ref q', rfl, h1, c, n, hv', he.sd F ρ _ σ S H _ hw R fun d ρ1 u S1 H1 hh R1 s1 d1 => ?_⟩
  obtain ⟨e1, l, m, l', rfl, rfl, hG, hp⟩ := hh
  obtain ⟨j1, ⟨⟨dx1, fs1, h11, h21⟩, h31⟩, j3, j4⟩ := R1.obj.at_ i _ e1
  obtain ⟨kvs, k1, k2, k3⟩ := h31 l rfl
  have sq := (j3 q' (.inr ⟨by simp, rfl⟩)).1
  have sp := (j3 p (.inl rfl)).1
  refine ⟨S1, q', u, kvs, l, m, l', rfl, R1.sub, R1.found, k1, sq, TL.of k2 k3, d1, hG, fun r S' H' kvs' nr hr' tl sm sub fresh lf sr => ?_⟩
  have h12 : H' p = some (.ins C dx1 fs1) := lf.at_ p _ (R1.tok.ns .ins h11) h11
  have npr : p ≠ r := ne_of_none h11 nr
  refine ⟨.ref p, j1, p, C, dx1, fs1, rfl, h12, c, n, by rw [h21.len]; exact hlen, T.nx _ _ S' _ (hp r) (R1.mutO e1 sm (fun b y z => ?_) fresh (fun b y hb nt z => ?_) (fun b hb => ?_) ?_ rfl ⟨⟨dx1, _, upd_same, (h21.mono sm).putD nod un⟩, fun l2 hl2 => ?_⟩ (fun b hb => ?_) trivial) (s1.trans sm)⟩
  · have nb : b ≠ p := fun w => by
      rw [w] at z
      have := fresh p sp (by rw [z]; simp)
      rw [h11] at this
      cases this
    rw [upd_ne nb]
    exact sub b y z
  · rw [upd_ne fun w => hb (.inl w)]
    exact lf.at_ b y nt z
  · by_cases cb : b = p
    · rw [cb, upd_same]
      simp
    · rw [upd_ne cb]
      exact fun w => hb (lf.none w)
  · exact lf.tok.butO h12 .ins fun b y hb z => by rw [upd_ne hb]; exact z
  · cases hl2
    exact ⟨kvs', by rw [upd_ne npr.symm]; exact hr', tl.keys, tl.vals⟩
  · rcases hb with rfl | ⟨_, rfl⟩
    · refine ⟨?_, .inl (.inl rfl)⟩
      cases z : S' b with
      | none => rfl
      | some o =>
        have := fresh b sp (by rw [z]; simp)
        rw [h11] at this
        cases this
    · exact ⟨sr, .inr nr⟩⟩
end
end Tr
set_option Elab.async false
set_option linter.all false
set_option maxRecDepth 100000
set_option maxHeartbeats 2000000
/-! TrW2: the items of a thing's dict, each as a triple -/
namespace Tr
open PySem PySem.Spec PyProof.Rows L2
variable [Tabbed]
def tripleT (e : List Key × PyData) : PyData := match e.1 with
  | [.inr x, .inl n] => .tuple [.str x, .int n, e.2]
  | _ => .none
def wItems (C : Addr) (i jn ji ja : Nat) (f : Str) : WA := fun ρ P => insAt ρ i C fun _ fs _ kv => fs.lookup f = some .dic ∧ ∃ l, kv = some l ∧ l.length ≤ 1000 ∧ (∀ e ∈ l, ∃ x n, e.1 = kSI x n) ∧ (jn < ρ.length ∧ ji < ρ.length ∧ ja < ρ.length) ∧ P (l.map tripleT) ρ
abbrev gItem (K : PySem.W.Frag) (jn ji ja : Nat) : TG := gTup K 2 (gCons (gTup K 2 (gCons (gName jn) (gCons (gName ji) gNil))) (gCons (gName ja) gNil))
/-- between two turns -/
structure ItAt (K : PySem.W.Frag) (S H HL : Hp) (D q : Addr) (l : TD) (k : Nat) (G : Hp) : Prop where
  ex : ∃ S' us, Same S S' ∧ Same S' G ∧ (∀ b, S b = none → S' b ≠ none → H b = none) ∧ S' D = none ∧ S' q = none ∧ G D = some (.lst us) ∧ DqAll K S' us ((l.take k).map tripleT)
  le : ∀ b o, HL b = some o → G b = some o
section
variable {X : Cx} {pos : Pos} {C : Addr} {f s : Str}
theorem en_items (i jn ji ja : Nat) {px fp ap cp tpos : Pos} {x y z : Str} {elt : Expr} {elts : List Expr} {kk : Nat} {scope : Scope} (hc : X.calm = true) (hnd : X.N.Nodup) (c : Cls X.K C) (n : NoAttr X.K C f)
    (ok : BlkOk X.N X.env.scope scope [(x, jn), (y, ji), (z, ja)])
    (hg : ∀ (s : Shared) (H : Hp) (C : Addr) (cl : List (Str × Addr)) (fp : List Addr), PG (X.blk s H scope (compEnvC scope cl C X.env) fp) (.Tuple elts kk tpos) (gItem X.K jn ji ja))
    (he : ∀ (s : Shared) (H : Hp) (C : Addr) (cl : List (Str × Addr)) (fp : List Addr), PE (X.blk s H scope (compEnvC scope cl C X.env) fp) elt (tTup (tCons (tVar jn) (tCons (tVar ji) (tCons (tVar ja) tNil)))))
    (hne : jn ≠ ji ∧ jn ≠ ja ∧ ji ≠ ja := by decide)
    (hN : X.N[i]? = some s := by rfl) (hv : Vis X.env.scope s := by first | exact Or.inl rfl | exact Or.inr (Or.inl rfl) | exact Or.inr (Or.inr rfl)) (hd : (s == ("__debug__" : Str)) = false := by decide) (hcd : (s == ("__classdict__" : Str)) = false := by decide)
    (hb : attributeBase (.Name s px) f X.env (eval (.Name s px) X.env) = eval (.Name s px) X.env := by rfl)
    (hb2 : attributeBase (.Attribute (.Name s px) f fp) "items" X.env (eval (.Attribute (.Name s px) f fp) X.env) = eval (.Attribute (.Name s px) f fp) X.env := by rfl) (hline : (ap.endLine == cp.line) = true := by rfl)
    (hs : ∀ v, foldedSetIterable (.Call (.Attribute (.Attribute (.Name s px) f fp) "items" ap) [] [] cp) X.env v = pure v := by intro _; rfl) :
    EN X (.ListComp elt [⟨.Tuple elts kk tpos, .Call (.Attribute (.Attribute (.Name s px) f fp) "items" ap) [] [] cp, [], 0⟩] scope pos)
      (tLockE (tLc (iItemsT (tFld X.K (tVar i) f)) (gItem X.K jn ji ja) tYes (tTup (tCons (tVar jn) (tCons (tVar ji) (tCons (tVar ja) tNil)))) [jn, ji, ja])) (wItems C i jn ji ja f) :=
  ⟨pe_lock (pe_lc (own := [(x, jn), (y, ji), (z, ja)]) hc hnd (pi_itemsT (pe_fld (pe_var hN hv hd hcd) hb) hb2 hline) ok hg (fun _ _ _ _ _ => pts_nil) he hs), fun F ρ P σ S H Q hw R q => by
  obtain ⟨p, fs, q', kv, e, hf, l, rfl, hlen, hkeys, hbd, hp⟩ := hw.out
  obtain ⟨g1, ⟨⟨dx, fs', h1, h2⟩, h3⟩, g3, g4⟩ := R.obj.at_ i _ e
  obtain ⟨v, hv', hdv⟩ := h2.look hf
  cases (show v = .ref q' from hdv)
  obtain ⟨kvs, k1, k2, k3⟩ := h3 l rfl
  have tl := TL.of (K := X.K) (S := S) k2 k3
  have ll := tl.len
  have npq : p ≠ q' := ne_of h1 k1 fun w => nomatch w
  have sq : S q' = none := (g3 q' (.inr ⟨by simp, rfl⟩)).1
  refine ⟨q', .dT kvs, k1, trivial, fun od => ?_⟩
  generalize hHL : upd H q' (.frz od (.dT kvs)) = HL
  have HLq : HL q' = some (.frz od (.dT kvs)) := by rw [← hHL, upd_same]
  have HLo : ∀ b, b ≠ q' → HL b = H b := fun b hb => by rw [← hHL, upd_ne hb]
  refine ⟨.ref p, g1, p, C, dx, fs', .ref q', rfl, by rw [HLo p npq]; exact h1, c, n, hv', q', od, kvs, rfl, HLq, fun D nD => ?_⟩
  have nDq : D ≠ q' := fun w => by rw [w, HLq] at nD; cases nD
  have HD : H D = none := by rw [← HLo D nDq]; exact nD
  refine ⟨fun k m G => m = kvs.length - k ∧ k ≤ kvs.length ∧ ItAt X.K S H HL D q' l k G, ⟨kvs.length, by simp, Nat.zero_le _, ⟨S, [], Same.refl S, fun b o eb => ?_, fun b u w => absurd u w, same_none R.sub HD, sq, upd_same, .nil⟩, fun b o eb => ?_⟩, ?_⟩
  · have b1 : b ≠ D := fun w => by rw [w, same_none R.sub HD] at eb; cases eb
    have b2 : b ≠ q' := fun w => by rw [w, sq] at eb; cases eb
    rw [upd_ne b1, HLo b b2]
    exact R.sub b o eb
  · rw [upd_ne (ne_of_none eb nD)]
    exact eb
  · rintro k m G ⟨rfl, hk, ⟨S', us, sm, sub, fresh, sD, sq', gD, da⟩, le⟩
    by_cases hlt : k < kvs.length
    · refine .inr ⟨⟨le _ _ HLq, hlt⟩, ItAt X.K S H HL D q' l (k + 1), fun G' a => ⟨kvs.length - (k + 1), by omega, rfl, hlt, a⟩, fun w G' yl => ?_⟩
      obtain ⟨T, key, v, a, hkv, rfl, nT, ha, rfl⟩ := yl
      obtain ⟨d, hd1, dv⟩ := tl.at hkv
      obtain ⟨xs, nn, ek⟩ := hkeys (key, d) (List.mem_of_getElem? hd1)
      replace ek : key = kSI xs nn := ek
      subst ek
      have naT : a ≠ T := ne_of_none ha nT
      have hw3 : (wipe σ [jn, ji, ja]).length = ρ.length := by rw [wipe_length, R.len]
      obtain ⟨n1, n2, n3⟩ := hne
      generalize hσ : ((((wipe σ [jn, ji, ja]).set jn (some (.str xs))).set ji (some (.int nn))).set ja (some v)) = σ2
      have lk1 : σ2[jn]? = some (some (.str xs)) := by
        rw [← hσ, List.getElem?_set_ne n2.symm, List.getElem?_set_ne n1.symm, List.getElem?_set_self (by rw [hw3]; exact hbd.1)]
      have lk2 : σ2[ji]? = some (some (.int nn)) := by
        rw [← hσ, List.getElem?_set_ne n3.symm, List.getElem?_set_self (by rw [List.length_set, hw3]; exact hbd.2.1)]
      have lk3 : σ2[ja]? = some (some v) := by
        rw [← hσ, List.getElem?_set_self (by rw [List.length_set, List.length_set, hw3]; exact hbd.2.2)]
      have ag : wipe σ2 [jn, ji, ja] = wipe σ [jn, ji, ja] := wipe_agr (ts := [jn, ji, ja]) ⟨by rw [← hσ]; simp, fun u hu => by
        have u1 : jn ≠ u := fun w => hu (by rw [← w]; simp)
        have u2 : ji ≠ u := fun w => hu (by rw [← w]; simp)
        have u3 : ja ≠ u := fun w => hu (by rw [← w]; simp)
        rw [← hσ, List.getElem?_set_ne u3, List.getElem?_set_ne u2, List.getElem?_set_ne u1]⟩ fun u hu => hu
      refine ⟨T, [.ref a, v], rfl, .inl (.inl upd_same), rfl, .ref a, [v], rfl, a, [.str xs, .int nn], rfl, .inl (.inl (by rw [upd_ne naT]; exact ha)), rfl, .str xs, [.int nn], rfl, .int nn, [], rfl, rfl, v, [], rfl, rfl, ?_⟩
      rw [hσ]
      refine ⟨ag, ?_⟩
      simp only [tYes, if_true]
      refine ⟨_, lk1, _, lk2, _, lk3, by show 3 ≤ sizeLine; rw [sizeLine_eq]; omega, fun pp npp => ?_⟩
      have nTD : T ≠ D := (ne_of_none gD nT).symm
      have npT : pp ≠ T := fun w => by rw [w, upd_same] at npp; cases npp
      have nG : G pp = none := by rw [← npp, upd_ne npT]
      have npD : D ≠ pp := ne_of_none gD nG
      have nS : S' pp = none := same_none sub nG
      have nST : S' T = none := same_none sub nT
      have nHL : HL pp = none := by
        cases w : HL pp with
        | none => rfl
        | some o => rw [le pp o w] at nG; cases nG
      have npq' : pp ≠ q' := fun w => by rw [w, HLq] at nHL; cases nHL
      have nH : H pp = none := by rw [← HLo pp npq']; exact nHL
      have sn : Same S' (upd S' pp (.tup [.str xs, .int nn, v])) := same_new nS
      have lus : us.length = k := by
        rw [da.len, List.length_map, List.length_take]
        omega
      refine ⟨us, by rw [upd_ne npD, upd_ne nTD.symm]; exact gD, by rw [lus, sizeLine_eq]; omega, ⟨upd S' pp (.tup [.str xs, .int nn, v]), us ++ [.ref pp], sm.trans sn, fun b o eb => ?_, fun b w1 w2 => ?_, ?_, ?_, upd_same, ?_⟩, fun b o eb => ?_⟩
      · by_cases hb : b = pp
        · subst hb
          rw [upd_ne npD.symm, upd_same]
          rw [upd_same] at eb
          exact eb
        · rw [upd_ne hb] at eb
          have b1 : b ≠ D := fun w => by rw [w, sD] at eb; cases eb
          have b2 : b ≠ T := fun w => by rw [w, nST] at eb; cases eb
          rw [upd_ne b1, upd_ne hb, upd_ne b2]
          exact sub b o eb
      · by_cases hb : b = pp
        · rw [hb]
          exact nH
        · rw [upd_ne hb] at w2
          exact fresh b w1 w2
      · rw [upd_ne npD]
        exact sD
      · rw [upd_ne npq'.symm]
        exact sq'
      · have hk2 : k < l.length := by omega
        have hlk : l[k] = (kSI xs nn, d) := by
          rw [List.getElem?_eq_getElem hk2] at hd1
          exact Option.some.inj hd1
        rw [List.take_succ_eq_append_getElem hk2, List.map_append, hlk]
        refine (dqAll_mono sn da).append (.cons (.tup (.inl (.inl upd_same)) (.cons (.str _) (.cons (.int _) (.cons (dq_mono (sm.trans sn) dv) .nil)))) .nil)
      · rw [upd_ne (ne_of_none eb nD), upd_ne (ne_of_none eb nHL), upd_ne (ne_of_none (le b o eb) nT)]
        exact le b o eb
    · have ek : k = kvs.length := by omega
      subst ek
      rw [ll, List.take_length] at da
      refine .inl ⟨⟨le _ _ HLq, Nat.le_refl _⟩, le _ _ HLq, ?_⟩
      have back : ∀ b o, H b = some o → upd G q' (.dT kvs) b = some o := fun b o eb => by
        by_cases hb : b = q'
        · subst hb
          rw [upd_same, ← k1, eb]
        · rw [upd_ne hb]
          exact le b o (by rw [HLo b hb]; exact eb)
      have R' := R.after (S' := S') (H' := upd G q' (.dT kvs)) sm (fun b o eb => by
        have b2 : b ≠ q' := fun w => by rw [w, sq'] at eb; cases eb
        rw [upd_ne b2]
        exact sub b o eb) fresh ⟨fun b o _ eb => back b o eb, R.tok.same back⟩
      refine q _ ρ D us S' _ hp R' sm ⟨by rw [upd_ne nDq]; exact gD, sD, R.h0 HD, fun i2 m2 ds2 e2 w => ?_⟩ da
      obtain ⟨a2, vs2, w1, w2, _⟩ := R.own i2 m2 ds2 e2
      rw [w] at w1
      cases w1
      rw [HD] at w2
      cases w2⟩
end
end Tr
set_option Elab.async false
set_option linter.all false
set_option maxRecDepth 100000
set_option maxHeartbeats 4000000
namespace K12
open PySem PySem.Spec PyProof.Rows L2 Tr
variable [Tabbed]
local macro_rules | `(tactic| walk_at "tr") => `(tactic| simp only [wOwn, wRet, wRetN, wExpr, wAsg, wSet, wSetN, wPar, wParV0, wParN0, wAugI, wgNil, wgCons, wCall, wCall0, wCallM, wCallN, wIxO, wFn, wFn1, wFnN, wTuple1, wAppend, wPopAt, wSetO, wNeO, wIsN, wTup, wLst, wYes, wRep, wSliceL, wSliceT, wRev, wRevT, wIsLT, wIs1, wNeg, wChainI, wMinT, wCallRev, wTru, wInD, wSortedD, wSortedK, wNotN, wAugT, wSetDc, wDput, wNameD, wSlotGet, wSlotPut, wSetLeft, wItems, wFld, wFldO, wSetF, wSetFD, wMethO, wCallO, wMake, wStill, wParB, wSetB, wStar, wSortLam, insAt, objAt, ownAt, asInt, asNat, asList, asTuple, someOf, seqItems, at0, at1, at2, at3, wIf, wB, wOp, wOpN, wName, wLook, wN, wC, wAnd, wOr, wNot, wAndV, wOrV, wNotV, wSeq, wNext, wIfS, wNil, wCons, wPart, wgSeq, gvName, wTurn, wipeE, gI, gI0, gEq, gNe, gLen, gIx, gInt, gAbs, gMin2, gList, gTup1, gMulS, gAll, gCatL, gCatT, gRepT, Tr.isNone, Tr.isLT, Tr.top, Tr.isTup, Tr.isInt, Tr.isBool, startE, startM, startO, putT, List.map_cons, List.map_nil, List.length_cons, List.length_nil, List.cons_append, List.nil_append, List.getElem?_cons_zero, List.getElem?_cons_succ, List.set_cons_zero, List.set_cons_succ, List.replicate, List.length_map, if_true, if_false, Bool.false_eq_true, reduceIte, List.mem_cons, List.not_mem_nil, or_false, forall_eq, forall_eq_or_imp, false_implies, implies_true, true_and, and_true, Option.bind_some, Option.map_some, Option.map_none, Int.reduceLT, Int.reduceLE, Int.reduceToNat, Int.toNat_zero, Int.toNat_one, Int.toNat_natCast, Nat.reduceAdd, Nat.reduceLT, decide_true, List.set, Int.add_zero, Int.zero_add])
section
variable {P : Program} {w : World} {K : PySem.W.Frag} {mg : Str → Option Value} {base : Heap}
def intT (n : Nat) : PyData := .int (n : Int)
def natsT (ns : List Nat) : PyData := .tuple (ns.map intT)
def textsT (xs : List Str) : PyData := .tuple (xs.map .str)
theorem atI_nat {ds : List PyData} {i : Nat} : atI ds (i : Int) = ds[i]? := by
  unfold atI ixN
  by_cases hi : i < ds.length
  · have h0 : ¬ ((i : Int) < 0) := by omega
    have h1 : ((i : Int)) < (ds.length : Int) := by omega
    simp [h0, h1, hi]
  · have h0 : ¬ ((i : Int) < 0) := by omega
    have h1 : ¬ ((i : Int)) < (ds.length : Int) := by omega
    simp [h0, h1]
    omega
/-! ### is_below, use_in -/
def tBelow : TSp := fun ds Q => ∃ (i : Int) (n : Nat), ds = [.int i, .int (n : Int)] ∧ Q (.bool (decide (0 ≤ i) && decide (i < n)))
theorem ok_is_below (T : Top K mg) : FnOk P w K mg base (L2.CX P w) 1 T.a_is_below T.d_is_below ["thing", "limit"] (spV K 2 tBelow) := by
  refine fn_pure T.F_is_below sc_is_below rfl fun c A o s H E hr => ?_
  have nd := sc_is_below.nd
  refine ⟨_, _, (svs_cons (sv_if (ew_or (et_val (ev_is1 asks_bool T.b_isinstance T.b_bool (ev_name 0))) (ew_or1 (et_not (et_val (ev_is1 asks_int T.b_isinstance T.b_int (ev_name 0)))))).et (svs_one (sv_ret ev_bl)) svs_nil)
      (svs_one (sv_ret (ev_leLt ev_int (ev_name 0) (ev_name 1))))), fun ds P' hl hT => ?_⟩
  obtain ⟨i, n, rfl, q⟩ := hT
  walk_at "tr"
  simp only [Bool.not_true, Bool.false_eq_true, if_false]
  refine Tr.Later.now ?_
  walk_at "tr"
  refine Tr.Later.now ?_
  walk_at "tr"
  by_cases c : (0 : Int) ≤ i
  · rw [if_pos (by simpa using c)]
    simpa [c] using q
  · rw [if_neg (by simpa using c)]
    simpa [c] using q
def tUseIn : TSp := fun ds Q => ∃ (l : Lib) (i : Nat) (u : (Str × Str) × Bool), l.uses[i]? = some u ∧ ds = [libT true l, .int (i : Int)] ∧ Q (useT true u)
theorem ok_use_in (T : Top K mg) : FnOk P w K mg base (L2.CX P w) 2 T.a_use_in T.d_use_in ["lib", "i"] (spV K 2 tUseIn) := by
  refine fn_pure T.F_use_in sc_use_in rfl fun c A o s H E hr => ?_
  have nd := sc_use_in.nd
  refine ⟨_, _, (svs_cons (sv_set 2 nd (ev_ix (ev_name 0) ev_int))
      (svs_cons (sv_if (et_not (et_val (ev_call (ok_is_below T) (hr.mono (by decide)) T.m_is_below T.F_is_below.kp T.B_is_below (ea_cons (ev_name 1) (ea_cons (ev_len T.b_len (er_name 2)) ea_nil))))) (svs_one sv_dead) svs_nil)
      (svs_one (sv_ret (ev_ix (ev_name 2) (ev_name 1)))))), fun ds P' hl hT => ?_⟩
  obtain ⟨l, i, u, hu, rfl, q⟩ := hT
  have hi := (List.getElem?_eq_some_iff.mp hu).1
  simp only [libT, seqOf, if_true]
  walk_at "tr"
  refine Tr.Later.now ?_
  walk_at "tr"
  refine ⟨(i : Int), l.uses.length, rfl, ?_⟩
  simp only [Int.natCast_nonneg, decide_true, Bool.true_and, show ((i : Int) < (l.uses.length : Int)) from by omega, Bool.not_true, Bool.false_eq_true, if_false]
  refine Tr.Later.now ?_
  walk_at "tr"
  refine Tr.Later.now ?_
  walk_at "tr"
  rw [atI_nat, List.getElem?_map, hu]
  exact q
/-! ### what is told of nobody -/
def unb (u : (Str × Str) × Bool) : PyData := if u.2 = true then .tuple [.str "nobody"] else .tuple [.str "lost"]
def tUnb : TSp := fun ds Q => ∃ u, ds = [useT true u] ∧ Q (unb u)
theorem ok_unbound_answer (T : Top K mg) : FnOk P w K mg base (L2.CX P w) 1 T.a_unbound_answer T.d_unbound_answer ["use"] (spV K 1 tUnb) := by
  refine fn_pure T.F_unbound_answer sc_unbound_answer rfl fun c A o s H E hr => ?_
  obtain ⟨_, _, _, _, _, hnb, lnb⟩ := T.g_nb
  obtain ⟨_, _, _, _, _, hlo, llo⟩ := T.g_lo
  refine ⟨_, _, (svs_one (sv_ret (ev_if (et_val (ev_ix (ev_name 0) ev_int)) (ev_one1 hnb lnb) (ev_one1 hlo llo)))), fun ds P' hl hT => ?_⟩
  obtain ⟨u, rfl, q⟩ := hT
  simp only [useT, seqOf, if_true]
  walk_at "tr"
  unfold unb at q
  cases e : u.2
  · rw [e] at q
    exact q
  · rw [e] at q
    exact q
/-! ### frozen -/
def tFroz : Nat → TSp
  | 0 => fun _ _ => False
  | n + 1 => fun ds Q => ∃ d, ds = [d] ∧ ((∃ x, d = .str x ∧ Q d) ∨ (∃ b, d = .bool b ∧ Q d) ∨ ∃ b xs ys, d = seqOf b xs ∧ xs.length ≤ 100 ∧ xs.length = ys.length ∧ (∀ (i : Nat) (x y : PyData), xs[i]? = some x → ys[i]? = some y → ∀ R : PyData → Prop, R y → tFroz n [x] R) ∧ Q (.tuple ys))
theorem ok_frozen_at (T : Top K mg) : ∀ n : Nat, FnOk P w K mg base (L2.CX P w) (n + 1) T.a_frozen T.d_frozen ["value"] (spV K 1 (tFroz n))
  | 0 => ⟨fun vs H Q E h => by
      obtain ⟨_, _, _, _, _, _, _, z, _⟩ := h
      exact z.elim, fun A outer s H args us vs Q E hr he hb hv h => by
      obtain ⟨_, _, _, _, _, _, _, z, _⟩ := h
      exact z.elim⟩
  | n + 1 => by
    have ih := ok_frozen_at T n
    refine fn_pure T.F_frozen sc_frozen rfl fun c A o s H E hr => ?_
    have nd := sc_frozen.nd
    refine ⟨_, _, (svs_cons (sv_if (et_val (ev_isLT T.b_isinstance T.b_list T.b_tuple (ev_name 0))) (svs_one (sv_ret (ev_tuple1 T.b_tuple (en_lc (te := tCall (spV K 1 (tFroz n)) [] E0 _) [("part", 1)] rfl nd (ev_name 0) (blkOk_by (N := N_frozen) (sc := defScope s_frozen) (by decide +kernel)) (fun _ _ _ _ _ => (gv_name 1 nd)) (fun _ _ _ _ _ => ets_nil) (fun _ _ _ _ _ => (ev_call ih hr T.m_frozen T.F_frozen.kp T.B_frozen (ea_cons (ev_name 1) ea_nil))) (by decide)).ev))) svs_nil)
      (svs_one (sv_ret (ev_name 0)))), fun ds P' hl hT => ?_⟩
    obtain ⟨d, rfl, hS⟩ := hT
    rcases hS with ⟨x, rfl, q⟩ | ⟨b, rfl, q⟩ | ⟨b, xs, ys, rfl, h1, h2, h3, q⟩
    · walk_at "tr"
      refine Tr.Later.now ?_
      walk_at "tr"
      refine Tr.Later.now ?_
      walk_at "tr"
      exact q
    · walk_at "tr"
      refine Tr.Later.now ?_
      walk_at "tr"
      refine Tr.Later.now ?_
      walk_at "tr"
      exact q
    · cases b
      all_goals
        simp only [seqOf, if_true, if_false, Bool.false_eq_true]
        walk_at "tr"
        refine Tr.Later.now ?_
        walk_at "tr"
        unfold wLc
      · refine ⟨false, ?_⟩
        walk_at "tr"
        refine ⟨xs, rfl, fun k acc ρ => acc = ys.take k ∧ ρ = [.val (.list xs), .un], ⟨rfl, rfl⟩, fun k x acc ρ hx hI => ?_, fun acc ρ hI => ?_⟩
        · obtain ⟨rfl, rfl⟩ := hI
          walk_at "tr"
          have hk : k < ys.length := by
            have := (List.getElem?_eq_some_iff.mp hx).1
            omega
          have hy : ys[k]? = some ys[k] := List.getElem?_eq_getElem hk
          refine h3 k x _ hx hy _ ?_
          exact ⟨by rw [List.length_take, sizeLine_eq]; omega, (take_one hy).symm⟩
        · obtain ⟨rfl, rfl⟩ := hI
          rw [h2, List.take_length]
          exact q
      · refine ⟨true, ?_⟩
        walk_at "tr"
        refine ⟨xs, rfl, fun k acc ρ => acc = ys.take k ∧ ρ = [.val (.tuple xs), .un], ⟨rfl, rfl⟩, fun k x acc ρ hx hI => ?_, fun acc ρ hI => ?_⟩
        · obtain ⟨rfl, rfl⟩ := hI
          walk_at "tr"
          have hk : k < ys.length := by
            have := (List.getElem?_eq_some_iff.mp hx).1
            omega
          have hy : ys[k]? = some ys[k] := List.getElem?_eq_getElem hk
          refine h3 k x _ hx hy _ ?_
          exact ⟨by rw [List.length_take, sizeLine_eq]; omega, (take_one hy).symm⟩
        · obtain ⟨rfl, rfl⟩ := hI
          rw [h2, List.take_length]
          exact q
end
end K12
set_option Elab.async false
set_option linter.all false
set_option maxRecDepth 100000
set_option maxHeartbeats 4000000
namespace K12
open PySem PySem.Spec PyProof.Rows L2 Tr
variable [Tabbed]
local macro_rules | `(tactic| walk_at "tr") => `(tactic| simp only [wOwn, wRet, wRetN, wExpr, wAsg, wSet, wSetN, wPar, wParV0, wParN0, wAugI, wgNil, wgCons, wCall, wCall0, wCallM, wCallN, wIxO, wFn, wFn1, wFnN, wTuple1, wAppend, wPopAt, wSetO, wNeO, wIsN, wTup, wLst, wYes, wRep, wSliceL, wSliceT, wRev, wRevT, wIsLT, wIs1, wNeg, wChainI, wMinT, wCallRev, wTru, wInD, wSortedD, wSortedK, wNotN, wAugT, wSetDc, wDput, wNameD, wSlotGet, wSlotPut, wSetLeft, wItems, wFld, wFldO, wSetF, wSetFD, wMethO, wCallO, wMake, wStill, wParB, wSetB, wStar, wSortLam, insAt, objAt, ownAt, asInt, asNat, asList, asTuple, someOf, seqItems, at0, at1, at2, at3, wIf, wB, wOp, wOpN, wName, wLook, wN, wC, wAnd, wOr, wNot, wAndV, wOrV, wNotV, wSeq, wNext, wIfS, wNil, wCons, wPart, wgSeq, gvName, wTurn, wipeE, gI, gI0, gEq, gNe, gLen, gIx, gInt, gAbs, gMin2, gList, gTup1, gMulS, gAll, gCatL, gCatT, gRepT, Tr.isNone, Tr.isLT, Tr.top, Tr.isTup, Tr.isInt, Tr.isBool, startE, startM, startO, putT, List.map_cons, List.map_nil, List.length_cons, List.length_nil, List.cons_append, List.nil_append, List.getElem?_cons_zero, List.getElem?_cons_succ, List.set_cons_zero, List.set_cons_succ, List.replicate, List.length_map, if_true, if_false, Bool.false_eq_true, reduceIte, List.mem_cons, List.not_mem_nil, or_false, forall_eq, forall_eq_or_imp, false_implies, implies_true, true_and, and_true, Option.bind_some, Option.map_some, Option.map_none, Int.reduceLT, Int.reduceLE, Int.reduceToNat, Int.toNat_zero, Int.toNat_one, Int.toNat_natCast, Nat.reduceAdd, Nat.reduceLT, decide_true, List.set, Int.add_zero, Int.zero_add])
section
variable {P : Program} {w : World} {K : PySem.W.Frag} {mg : Str → Option Value} {base : Heap}
/-- [x for x in .. if ..] -/
theorem lc_filter {ix : Nat} {ds : List PyData} {f : PyData → Bool} {b : Bool} {wi : W1} {wt : WT} {ρ : En} {P : List PyData → En → Prop} (hwi : ∀ P', P' (seqOf b ds) ρ → wi ρ P') (hρ : ρ[ix]? = some .un)
    (ht : ∀ x ∈ ds, ∀ P', P' (f x) (ρ.set ix (.val x)) → wt (ρ.set ix (.val x)) P') (hl : ds.length < sizeLine) (q : P (ds.filter f) ρ) : wLc wi (gvName ix) wt (wName ix) [ix] ρ P := by
  have hlt : ix < ρ.length := (List.getElem?_eq_some_iff.mp hρ).1
  have back : ∀ x, wipeE (ρ.set ix x) [ix] = ρ := fun x => by
    show (ρ.set ix x).set ix .un = ρ
    rw [List.set_set]
    refine List.ext_getElem? fun j => ?_
    by_cases e : ix = j
    · subst e
      rw [List.getElem?_set_self hlt, hρ]
    · rw [List.getElem?_set_ne e]
  refine ⟨b, hwi _ ⟨ds, rfl, fun k acc ρ' => acc = (ds.take k).filter f ∧ ρ' = ρ, ⟨rfl, rfl⟩, fun k x acc ρ' hx hI => ?_, fun acc ρ' hI => ?_⟩⟩
  · obtain ⟨rfl, rfl⟩ := hI
    have hk := (List.getElem?_eq_some_iff.mp hx).1
    refine ⟨fun v hv => by rw [List.mem_singleton.mp hv]; exact hρ, ?_⟩
    refine ht x (List.mem_of_getElem? hx) _ ?_
    have e : (ds.take (k + 1)).filter f = (ds.take k).filter f ++ (if f x = true then [x] else []) := by
      rw [take_one hx, List.filter_append]
      cases h : f x <;> simp [h]
    cases h : f x
    · rw [if_neg Bool.false_ne_true]
      exact ⟨by rw [e, h]; simp, back _⟩
    · rw [if_pos rfl]
      show wName ix _ _
      unfold wName
      rw [List.getElem?_set_self hlt]
      refine ⟨Nat.lt_of_le_of_lt (Nat.le_trans (List.length_filter_le _ _) (by rw [List.length_take]; omega)) hl, by rw [e, h]; simp, back _⟩
  · obtain ⟨rfl, rfl⟩ := hI
    rw [List.take_length]
    exact q
theorem filter_texts (xs : List Str) (f : PyData → Bool) : (xs.map PyData.str).filter f = (xs.filter fun x => f (.str x)).map .str := by
  rw [List.filter_map]
  rfl
def tAmong : TSp := fun ds Q => ∃ xs : List Str, ds = [textsD xs, .none] ∧ xs.length ≤ 1000 ∧ Q (textsD xs)
theorem ok_among (T : Top K mg) : FnOk P w K mg base (L2.CX P w) 1 T.a_among T.d_among ["names", "wanted"] (spV K 2 tAmong) := by
  refine fn_pure T.F_among sc_among rfl fun c A o s H E hr => ?_
  have nd := sc_among.nd
  have hu := hr.units
  have hu5 : (A.deeper (envOfC "among" (defScope s_among) s.heap.objs.size T.a_among c)).units + 65 < cLine := by have := hr.un; omega
  refine ⟨_, _, (svs_one (sv_ret (en_lc (tt := tOr (tB (tIsN (tVar 1))) (tTest (tOp (rInQ K false) (tVar 2) (tVar 1)))) [("name", 2)] rfl nd (ev_name 0) (blkOk_by (N := N_among) (sc := defScope s_among) (by decide +kernel)) (fun _ _ _ _ _ => (gv_name 2 nd)) (fun _ _ _ _ _ => ets_one (ew_or (et_isN (ev_name 1)) (ew_or1 (et_in hu5 (ev_name 2) (ev_name 1)))).et) (fun _ _ _ _ _ => (ev_name 2)) (by decide)).ev)), fun ds P' hl hT => ?_⟩
  obtain ⟨xs, rfl, hx, q⟩ := hT
  show wRet _ _ _
  simp only [wRet, wN, textsD]
  refine lc_filter (f := fun _ => true) (b := false) (fun P' h => by walk_at "tr"; exact h) rfl (fun x hx P' h => ?_) (by rw [List.length_map, sizeLine_eq]; omega) ?_
  · walk_at "tr"
    exact h
  · rw [List.filter_eq_self.mpr (fun _ _ => rfl)]
    exact q
theorem cut_take {ds : List PyData} {k : Nat} (h : k ≤ ds.length) : Tr.cutD ds none (some (k : Int)) = ds.take k := by
  unfold Tr.cutD
  rw [HT.sIx_none, HT.sIx_nat, Nat.min_eq_left h]
  simp
theorem cut_drop {ds : List PyData} {k : Nat} (h : k ≤ ds.length) : Tr.cutD ds (some (k : Int)) none = ds.drop k := by
  unfold Tr.cutD
  rw [HT.sIx_none, HT.sIx_nat, Nat.min_eq_left h]
  rw [List.take_of_length_le (by rw [List.length_drop]; exact Nat.le_refl _)]
def tWith : TSp := fun ds Q => ∃ (cs : List Nat) (k : Nat) (c : Int) (n : Nat), c = (n : Int) ∧ k < cs.length ∧ cs.length ≤ 1000 ∧ ds = [natsT cs, .int (k : Int), .int c] ∧ Q (natsT (cs.set k n))
theorem set_cut {α : Type} (xs : List α) (k : Nat) (x : α) (h : k < xs.length) : xs.take k ++ [x] ++ xs.drop (k + 1) = xs.set k x := by
  rw [List.set_eq_take_append_cons_drop, if_pos h]
  simp
theorem ok_with_count (T : Top K mg) : FnOk P w K mg base (L2.CX P w) 1 T.a_with_count T.d_with_count ["counts", "k", "count"] (spV K 3 tWith) := by
  refine fn_pure T.F_with_count sc_with_count rfl fun c A o s H E hr => ?_
  refine ⟨_, _, (svs_one (sv_ret (ev_catT (ev_catT (ev_sliceT (ev_name 0) eo_none (eo_some (ev_name 1))) (ev_tup (ea_cons (ev_name 2) ea_nil))) (ev_sliceT (ev_name 0) (eo_some (ev_add (ev_name 1) ev_int)) eo_none)))), fun ds P' hl hT => ?_⟩
  obtain ⟨cs, k, c, n, rfl, hk, hl, rfl, q⟩ := hT
  unfold natsT at q ⊢
  have ek : ((k : Int) + 1) = ((k + 1 : Nat) : Int) := by omega
  have lm : (cs.map intT).length = cs.length := List.length_map _
  walk_at "tr"
  rw [cut_take (by rw [lm]; omega), ek, cut_drop (by rw [lm]; omega)]
  have e : (cs.map intT).take k ++ [PyData.int (n : Int)] ++ (cs.map intT).drop (k + 1) = (cs.set k n).map intT := by
    rw [set_cut _ _ _ (by rw [lm]; exact hk), List.map_set]
    rfl
  have l1 : ((cs.map intT).take k).length ≤ 1000 := by rw [List.length_take]; omega
  have l2 : ((cs.map intT).drop (k + 1)).length ≤ 1000 := by rw [List.length_drop]; omega
  simp only [List.length_append, List.length_cons, List.length_nil]
  refine ⟨by rw [sizeLine_eq]; omega, ?_⟩
  refine ⟨by rw [sizeLine_eq]; omega, by rw [sizeLine_eq]; omega, ?_⟩
  rw [e]
  exact q
/-! ### what is left of an answer -/
def aLeft (ks : List Str) (d : PyData) : PyData := match d with
  | .tuple [.str a, .str b, c] => if a = "bound" ∧ b ∉ ks then .tuple [.str "torn"] else d
  | _ => d
/-- an answer that a slot keeps -/
inductive Ans : PyData → Prop
  | bound (n v : Str) : okS n → okS v → Ans (.tuple [.str "bound", .str n, .str v])
  | one (x : Str) : okS x → x ≠ "bound" → Ans (.tuple [.str x])
def tLeftA : TSp := fun ds Q => ∃ d ks, ds = [d, dcT (ofKeys ks)] ∧ Ans d ∧ Q (aLeft ks d)
theorem keys_of (ks : List Str) : (ofKeys ks).map Prod.fst = ks := by
  unfold ofKeys
  rw [List.map_map]
  exact List.map_id _
theorem ok_answer_left (T : Top K mg) : FnOk P w K mg base (L2.CX P w) 1 T.a_answer_left T.d_answer_left ["answer", "there"] (spV K 2 tLeftA) := by
  refine fn_pure T.F_answer_left sc_answer_left rfl fun c A o s H E hr => ?_
  have nd := sc_answer_left.nd
  have hu := hr.units
  have hu1 := hu_of hr
  obtain ⟨_, _, _, _, _, hto, lto⟩ := T.g_to
  refine ⟨_, _, (svs_cons (sv_if (ew_and (et_eq hu (ev_ix (ev_name 0) ev_int) ev_str) (ew_and1 (et_notInD hu1 (ev_ix (ev_name 0) ev_int) (ev_name 1)))).et (svs_one (sv_ret (ev_one1 hto lto))) svs_nil)
      (svs_one (sv_ret (ev_name 0)))), fun ds P' hl hT => ?_⟩
  obtain ⟨d, ks, rfl, ha, q⟩ := hT
  have sb : SeqAt.shaped (.str "bound") = true := shaped_str (okS_word (by decide +kernel))
  cases ha with
  | bound n v hn hv =>
    walk_at "tr"
    refine ⟨sb, sb, ?_⟩
    rw [eqv_str, decide_eq_true rfl]
    walk_at "tr"
    refine ⟨n, ofKeys ks, rfl, rfl, ?_⟩
    rw [keys_of]
    by_cases c : n ∈ ks
    · simp only [c, decide_true, Bool.not_true, Bool.false_eq_true, if_false]
      refine Tr.Later.now ?_
      walk_at "tr"
      refine Tr.Later.now ?_
      walk_at "tr"
      simpa [aLeft, c] using q
    · simp only [c, decide_false, Bool.not_false, if_true]
      refine Tr.Later.now ?_
      walk_at "tr"
      simpa [aLeft, c] using q
  | one x hx hne =>
    walk_at "tr"
    refine ⟨shaped_str hx, sb, ?_⟩
    rw [eqv_str, decide_eq_false hne]
    walk_at "tr"
    refine Tr.Later.now ?_
    walk_at "tr"
    refine Tr.Later.now ?_
    walk_at "tr"
    exact q
end
end K12
set_option Elab.async false
set_option linter.all false
set_option maxRecDepth 100000
set_option maxHeartbeats 4000000
namespace K12
open PySem PySem.Spec PyProof.Rows L2 Tr
variable [Tabbed]
local macro_rules | `(tactic| walk_at "tr") => `(tactic| simp only [wOwn, wRet, wRetN, wExpr, wAsg, wSet, wSetN, wPar, wParV0, wParN0, wAugI, wgNil, wgCons, wCall, wCall0, wCallM, wCallN, wIxO, wFn, wFn1, wFnN, wTuple1, wAppend, wPopAt, wSetO, wNeO, wIsN, wTup, wLst, wYes, wRep, wSliceL, wSliceT, wRev, wRevT, wIsLT, wIs1, wNeg, wChainI, wMinT, wCallRev, wTru, wInD, wSortedD, wSortedK, wNotN, wAugT, wSetDc, wDput, wNameD, wSlotGet, wSlotPut, wSetLeft, wItems, wFld, wFldO, wSetF, wSetFD, wMethO, wCallO, wMake, wStill, wParB, wSetB, wStar, wSortLam, insAt, objAt, ownAt, asInt, asNat, asList, asTuple, someOf, seqItems, at0, at1, at2, at3, wIf, wB, wOp, wOpN, wName, wLook, wN, wC, wAnd, wOr, wNot, wAndV, wOrV, wNotV, wSeq, wNext, wIfS, wNil, wCons, wPart, wgSeq, gvName, wTurn, wipeE, gI, gI0, gEq, gNe, gLen, gIx, gInt, gAbs, gMin2, gList, gTup1, gMulS, gAll, gCatL, gCatT, gRepT, Tr.isNone, Tr.isLT, Tr.top, Tr.isTup, Tr.isInt, Tr.isBool, startE, startM, startO, putT, List.map_cons, List.map_nil, List.length_cons, List.length_nil, List.cons_append, List.nil_append, List.getElem?_cons_zero, List.getElem?_cons_succ, List.set_cons_zero, List.set_cons_succ, List.replicate, List.length_map, if_true, if_false, Bool.false_eq_true, reduceIte, List.mem_cons, List.not_mem_nil, or_false, forall_eq, forall_eq_or_imp, false_implies, implies_true, true_and, and_true, Option.bind_some, Option.map_some, Option.map_none, Int.reduceLT, Int.reduceLE, Int.reduceToNat, Int.toNat_zero, Int.toNat_one, Int.toNat_natCast, Nat.reduceAdd, Nat.reduceLT, decide_true, List.set, Int.add_zero, Int.zero_add])
section
variable {P : Program} {w : World} {K : PySem.W.Frag} {mg : Str → Option Value} {base : Heap}
/-! ### the layout -/
theorem row_nd {p : Plot} (hp : p.Ok) {xs : List Str} (h : ∀ x ∈ xs, x ∈ p.owns) : (rowOf p xs).Nodup := (walk_mem hp 100 0 (addNew [] xs) (fun x hx => (addNew_mem _ _ hx).elim (fun z => nomatch z) (h x)) (addNew_nd _ _ .nil)).2
def rowsL (p : Plot) : List (List Str) := p.doors.map fun d => rowOf p [d.1]
def firstL (p : Plot) : List Str := rowOf p (firstOf p)
def inL (p : Plot) (m : Str) : List (List Str) := p.doors.map fun d => if d.2 = m then rowOf p [d.1] else []
def rowsT (rs : List (List Str)) : PyData := .list (rs.map textsD)
def layFs (p : Plot) : List (Str × PyData) := [("first", textsD (firstL p)), ("rows", rowsT (rowsL p)), ("first_seen", textsD (firstL p)), ("rows_seen", rowsT (rowsL p)), ("into_public", rowsT (inL p "global")), ("into_deep", rowsT (inL p "deep"))]
def layT (C : Addr) (p : Plot) : PyData := obT C (layFs p)
theorem lk_first (p : Plot) : (layFs p).lookup ("first" : Str) = some (textsD (firstL p)) := look_eq
theorem lk_rows (p : Plot) : (layFs p).lookup ("rows" : Str) = some (rowsT (rowsL p)) := (look_ne (by decide)).trans look_eq
theorem lk_seen (p : Plot) : (layFs p).lookup ("first_seen" : Str) = some (textsD (firstL p)) := (look_ne (by decide)).trans ((look_ne (by decide)).trans look_eq)
theorem lk_rseen (p : Plot) : (layFs p).lookup ("rows_seen" : Str) = some (rowsT (rowsL p)) := (look_ne (by decide)).trans ((look_ne (by decide)).trans ((look_ne (by decide)).trans look_eq))
theorem lk_pub (p : Plot) : (layFs p).lookup ("into_public" : Str) = some (rowsT (inL p "global")) := (look_ne (by decide)).trans ((look_ne (by decide)).trans ((look_ne (by decide)).trans ((look_ne (by decide)).trans look_eq)))
theorem lk_deep (p : Plot) : (layFs p).lookup ("into_deep" : Str) = some (rowsT (inL p "deep")) := (look_ne (by decide)).trans ((look_ne (by decide)).trans ((look_ne (by decide)).trans ((look_ne (by decide)).trans ((look_ne (by decide)).trans look_eq))))
/-- the row of door k -/
def rowK (p : Plot) (k : Nat) : List Str := (rowsL p).getD k []
theorem rowsL_at {p : Plot} {k : Nat} (h : k < p.doors.length) : (rowsL p)[k]? = some (rowK p k) := by
  have hl : k < (rowsL p).length := by
    unfold rowsL
    rw [List.length_map]
    exact h
  unfold rowK
  rw [List.getD_eq_getElem?_getD, List.getElem?_eq_getElem hl]
  rfl
theorem rowK_own {p : Plot} (hp : p.Ok) {k : Nat} : (∀ x ∈ rowK p k, x ∈ p.owns) ∧ (rowK p k).Nodup ∧ (rowK p k).length ≤ 10 := by
  unfold rowK
  rw [List.getD_eq_getElem?_getD]
  cases e : (rowsL p)[k]? with
  | none => exact ⟨fun x h => by simp at h, by simp, by simp⟩
  | some r =>
    unfold rowsL at e
    rw [List.getElem?_map] at e
    cases e2 : p.doors[k]? with
    | none => rw [e2] at e; cases e
    | some d =>
      rw [e2] at e
      cases e
      have ho : ∀ x ∈ [d.1], x ∈ p.owns := fun x hx => by
        rw [List.mem_singleton.mp hx]
        exact hp.gate d (List.mem_of_getElem? e2)
      exact ⟨(row_mem hp ho).1, row_nd hp ho, (row_mem hp ho).2⟩
theorem firstL_own {p : Plot} (hp : p.Ok) : (∀ x ∈ firstL p, x ∈ p.owns) ∧ (firstL p).Nodup ∧ (firstL p).length ≤ 10 :=
  ⟨(row_mem hp (first_own hp)).1, row_nd hp (first_own hp), (row_mem hp (first_own hp)).2⟩
def thereOf (p : Plot) (order : List Nat) : List Str := order.foldl (fun f k => (rowK p k).foldl add1 f) ((firstL p).foldl add1 [])
theorem there_snoc (p : Plot) (o : List Nat) (k : Nat) : thereOf p (o ++ [k]) = (rowK p k).foldl add1 (thereOf p o) := by
  unfold thereOf
  rw [List.foldl_append]
  rfl
theorem fold_add (f xs : List Str) : xs.foldl add1 f = addNew f xs := rfl
theorem there_mem {p : Plot} {x : Str} : ∀ (o : List Nat), x ∈ thereOf p o ↔ x ∈ firstL p ∨ ∃ k ∈ o, x ∈ rowK p k := by
  have mem : ∀ (xs f : List Str), x ∈ xs.foldl add1 f ↔ x ∈ f ∨ x ∈ xs := by
    intro xs
    induction xs with
    | nil => intro f; simp
    | cons y ys ih =>
      intro f
      rw [List.foldl_cons, ih]
      have e : x ∈ add1 f y ↔ x ∈ f ∨ x = y := by
        unfold add1
        split
        · constructor
          · exact .inl
          · rintro (h | rfl) <;> assumption
        · simp
      rw [e, List.mem_cons, or_assoc]
  intro o
  have gen : ∀ (o : List Nat) (f : List Str), x ∈ o.foldl (fun f k => (rowK p k).foldl add1 f) f ↔ x ∈ f ∨ ∃ k ∈ o, x ∈ rowK p k := by
    intro o
    induction o with
    | nil => intro f; simp
    | cons k ks ih =>
      intro f
      rw [List.foldl_cons, ih, mem]
      simp only [List.mem_cons, exists_eq_or_imp, or_assoc]
  unfold thereOf
  rw [gen, mem]
  simp
theorem there_nd {p : Plot} (o : List Nat) : (thereOf p o).Nodup := by
  have gen : ∀ (o : List Nat) (f : List Str), f.Nodup → (o.foldl (fun f k => (rowK p k).foldl add1 f) f).Nodup := by
    intro o
    induction o with
    | nil => exact fun f h => h
    | cons k ks ih => exact fun f h => ih _ (addNew_nd _ _ h)
  exact gen _ _ (addNew_nd _ _ .nil)
theorem there_own {p : Plot} (hp : p.Ok) (o : List Nat) : ∀ x ∈ thereOf p o, x ∈ p.owns := fun x h => by
  rcases (there_mem o).mp h with h | ⟨k, _, h⟩
  · exact (firstL_own hp).1 x h
  · exact (rowK_own hp).1 x h
theorem there_len {p : Plot} (hp : p.Ok) (o : List Nat) : (thereOf p o).length ≤ 10 := Nat.le_trans (nd_le _ _ (there_nd o) (there_own hp o)) (owns_len hp)
theorem textsD_at {rs : List (List Str)} {k : Nat} {r : List Str} (h : rs[k]? = some r) : (rs.map textsD)[k]? = some (textsD r) := by rw [List.getElem?_map, h]; rfl
def tThere (C : Addr) : TSp := fun ds Q => ∃ (p : Plot) (order : List Nat), p.Ok ∧ (∀ k ∈ order, k < p.doors.length) ∧ order.length ≤ 1000 ∧ ds = [layT C p, natsT order] ∧ Q (dcT (ofKeys (thereOf p order)))
theorem ok_names_there (T : Top K mg) : FnOk P w K mg base (L2.CX P w) 1 T.a_names_there T.d_names_there ["layout", "order"] (spV K 2 (tThere T.C_L)) := by
  refine fn_pure T.F_names_there sc_names_there rfl fun c A o s H E hr => ?_
  have nd := sc_names_there.nd
  have hu1 := hu_of hr
  refine ⟨_, _, (svs_cons (sv_setDc 2 3 rfl nd (ev_fld T.c_L T.n_L_first (ev_name 0)) (blkOk_by (N := N_names_there) (sc := defScope s_names_there) (by decide +kernel)) (fun _ _ _ _ _ => (gv_name 3 nd)) (fun _ _ _ _ _ => (ev_name 3)))
      (svs_cons (sv_for (ev_name 1) (gv_name 4 nd) (svs_one (sv_for (ev_ix (ev_fld T.c_L T.n_L_rows (ev_name 0)) (ev_name 4)) (gv_name 3 nd) (svs_one (sv_dput 2 3 hu1)) PassesOwn.never rfl)) PassesOwn.never rfl)
      (svs_one (sv_ret (ev_nameD 2))))), fun ds P' hl hT => ?_⟩
  obtain ⟨p, order, hp, ho, hol, rfl, q⟩ := hT
  have fo := firstL_own hp
  walk_at "tr"
  refine ⟨layFs p, _, rfl, lk_first p, firstL p, rfl, by omega, fun D => ?_⟩
  refine Tr.Later.now ?_
  walk_at "tr"
  show ∃ tupS : Bool, _
  refine ⟨true, ?_⟩
  walk_at "tr"
  refine ⟨order.map intT, rfl, fun k ρ => ∃ t3 t4, ρ = [.val (layT T.C_L p), .val (natsT order), .obj (.dk D (ofKeys (thereOf p (order.take k)))), t3, t4], ⟨_, _, rfl⟩, fun k x ρ hx hI => ?_, fun ρ hI => ?_⟩
  · obtain ⟨t3, t4, rfl⟩ := hI
    obtain ⟨j, rfl, hj⟩ : ∃ j : Nat, x = intT j ∧ order[k]? = some j := by
      rw [List.getElem?_map] at hx
      cases e : order[k]? with
      | none => rw [e] at hx; cases hx
      | some j => rw [e] at hx; exact ⟨j, (Option.some.inj hx).symm, rfl⟩
    have hjl := ho j (List.mem_of_getElem? hj)
    walk_at "tr"
    refine Tr.Later.now ?_
    show ∃ tupS : Bool, _
    refine ⟨false, ?_⟩
    walk_at "tr"
    refine ⟨layFs p, _, rfl, lk_rows p, ?_⟩
    unfold rowsT intT
    walk_at "tr"
    rw [atI_nat, textsD_at (rowsL_at hjl)]
    refine ⟨(rowK p j).map .str, rfl, fun i ρ => ∃ t3, ρ = [.val (layT T.C_L p), .val (natsT order), .obj (.dk D (ofKeys (((rowK p j).take i).foldl add1 (thereOf p (order.take k))))), t3, .val (.int (j : Int))], ⟨_, rfl⟩, fun i x ρ hx hI => ?_, fun ρ hI => ?_⟩
    · obtain ⟨t3, rfl⟩ := hI
      obtain ⟨z, rfl, hz⟩ : ∃ z : Str, x = .str z ∧ (rowK p j)[i]? = some z := by
        rw [List.getElem?_map] at hx
        cases e : (rowK p j)[i]? with
        | none => rw [e] at hx; cases hx
        | some j => rw [e] at hx; exact ⟨j, (Option.some.inj hx).symm, rfl⟩
      walk_at "tr"
      refine Tr.Later.now ?_
      walk_at "tr"
      refine ⟨D, _, z, rfl, rfl, ?_, .val (.str z), ?_⟩
      · have h1 := fold_len ((rowK p j).take i) (thereOf p (order.take k))
        have h2 := there_len hp (order.take k)
        have h3 : ((rowK p j).take i).length ≤ 10 := Nat.le_trans (by rw [List.length_take]; omega) (rowK_own hp (k := j)).2.2
        omega
      · rw [take_one hz, List.foldl_append]
        rfl
    · obtain ⟨t3, rfl⟩ := hI
      rw [List.length_map, List.take_length, take_one hj, there_snoc]
      exact ⟨_, _, rfl⟩
  · obtain ⟨t3, t4, rfl⟩ := hI
    rw [List.length_map, List.take_length]
    refine Tr.Later.now ?_
    walk_at "tr"
    exact ⟨D, _, rfl, q⟩
end
end K12
set_option Elab.async false
set_option linter.all false
set_option maxRecDepth 100000
set_option maxHeartbeats 4000000
namespace K12
open PySem PySem.Spec PyProof.Rows L2 Tr
variable [Tabbed]
local macro_rules | `(tactic| walk_at "tr") => `(tactic| simp only [wOwn, wRet, wRetN, wExpr, wAsg, wSet, wSetN, wPar, wParV0, wParN0, wAugI, wgNil, wgCons, wCall, wCall0, wCallM, wCallN, wIxO, wFn, wFn1, wFnN, wTuple1, wAppend, wPopAt, wSetO, wNeO, wIsN, wTup, wLst, wYes, wRep, wSliceL, wSliceT, wRev, wRevT, wIsLT, wIs1, wNeg, wChainI, wMinT, wCallRev, wTru, wInD, wSortedD, wSortedK, wNotN, wAugT, wSetDc, wDput, wNameD, wSlotGet, wSlotPut, wSetLeft, wItems, wFld, wFldO, wSetF, wSetFD, wMethO, wCallO, wMake, wStill, wParB, wSetB, wStar, wSortLam, insAt, objAt, ownAt, asInt, asNat, asList, asTuple, someOf, seqItems, at0, at1, at2, at3, wIf, wB, wOp, wOpN, wName, wLook, wN, wC, wAnd, wOr, wNot, wAndV, wOrV, wNotV, wSeq, wNext, wIfS, wNil, wCons, wPart, wgSeq, gvName, wTurn, wipeE, gI, gI0, gEq, gNe, gLen, gIx, gInt, gAbs, gMin2, gList, gTup1, gMulS, gAll, gCatL, gCatT, gRepT, Tr.isNone, Tr.isLT, Tr.top, Tr.isTup, Tr.isInt, Tr.isBool, startE, startM, startO, putT, List.map_cons, List.map_nil, List.length_cons, List.length_nil, List.cons_append, List.nil_append, List.getElem?_cons_zero, List.getElem?_cons_succ, List.set_cons_zero, List.set_cons_succ, List.replicate, List.length_map, if_true, if_false, Bool.false_eq_true, reduceIte, List.mem_cons, List.not_mem_nil, or_false, forall_eq, forall_eq_or_imp, false_implies, implies_true, true_and, and_true, Option.bind_some, Option.map_some, Option.map_none, Int.reduceLT, Int.reduceLE, Int.reduceToNat, Int.toNat_zero, Int.toNat_one, Int.toNat_natCast, Nat.reduceAdd, Nat.reduceLT, decide_true, List.set, Int.add_zero, Int.zero_add])
section
variable {P : Program} {w : World} {K : PySem.W.Frag} {mg : Str → Option Value} {base : Heap}
/-! ### bases -/
structure Bs where
  counts : List Nat
  order : List Nat
  pub : List Str
  deep : List Str
def Bs.d (b : Bs) : PyData := .tuple [natsT b.counts, natsT b.order, textsT b.pub, textsT b.deep]
def srt (xs : List Str) : List Str := xs.mergeSort (fun a b => PySem.W.dataLe false id (PyData.str a) (PyData.str b))
theorem srt_map (xs : List Str) : (xs.map PyData.str).mergeSort (PySem.W.dataLe false id) = (srt xs).map .str := (List.map_mergeSort (f := PyData.str) (l := xs) (s := PySem.W.dataLe false id) (fun _ _ _ _ => rfl)).symm
theorem srt_in {xs : List Str} {x : Str} : x ∈ srt xs ↔ x ∈ xs := List.mem_mergeSort
theorem srt_len (xs : List Str) : (srt xs).length = xs.length := List.length_mergeSort _
theorem srt_nd {xs : List Str} (h : xs.Nodup) : (srt xs).Nodup := (List.mergeSort_perm _ _).nodup_iff.mpr h
def chT (c o : List Nat) (sh su go : List Str) : PyData := .tuple [natsT c, natsT o, textsD sh, textsD su, textsD go]
def chg (b : Bs) (c o : List Nat) (sh su go : List Str) : Bs := ⟨c, o, (b.pub ++ sh.filter fun x => !decide (x ∈ b.pub)).filter fun x => !decide (x ∈ go), (if su = [] then b.deep else srt (b.deep ++ su)).filter fun x => !decide (x ∈ go)⟩
theorem nd_texts (xs : List Str) : ndAll (xs.map PyData.str) = true := by
  induction xs with
  | nil => rfl
  | cons x xs ih =>
    show (nd (.str x) && ndAll (xs.map PyData.str)) = true
    rw [ih]
    rfl
theorem shaped_list {fs : List Str} (h : ∀ x ∈ fs, okS x) : SeqAt.shaped (.list (fs.map .str)) = true := texts_shaped h
theorem shaped_tuple {fs : List Str} (h : ∀ x ∈ fs, okS x) : SeqAt.shaped (.tuple (fs.map .str)) = true := (good_tuple (n := 1) fun d hd => by
  obtain ⟨x, m, rfl⟩ := List.mem_map.mp hd
  exact good_str (h x m).1).shaped (by decide)
def tChg : TSp := fun ds Q => ∃ (b : Bs) (c o : List Nat) (sh su go : List Str), ds = [b.d, chT c o sh su go] ∧ (∀ x ∈ b.pub ++ b.deep ++ sh ++ su ++ go, okS x) ∧ (b.pub.length ≤ 400 ∧ b.deep.length ≤ 400 ∧ sh.length ≤ 400 ∧ su.length ≤ 400 ∧ go.length ≤ 400) ∧ Q (chg b c o sh su go).d
theorem filter_none (xs : List Str) : (xs.filter fun x => !decide (x ∈ ([] : List Str))) = xs := List.filter_eq_self.mpr fun x _ => by simp
theorem isEmpty_map (xs : List Str) : (xs.map PyData.str).isEmpty = xs.isEmpty := by cases xs <;> rfl
theorem lc_notIn {j m ix : Nat} {xs ys : List Str} {b b2 : Bool} {ρ : En} {P : List PyData → En → Prop} (hj : ρ[j]? = some (.val (seqOf b (xs.map .str)))) (hm : ρ[m]? = some (.val (seqOf b2 (ys.map .str)))) (hx : ρ[ix]? = some .un) (hne : ix ≠ m)
    (kx : ∀ x ∈ xs, okS x) (ky : ∀ x ∈ ys, okS x) (hl : xs.length ≤ 1000) (q : P ((xs.filter fun x => !decide (x ∈ ys)).map .str) ρ) : wLc (wName j) (gvName ix) (wB (wOp (gIn true) (wName ix) (wName m))) (wName ix) [ix] ρ P := by
  have hlt : ix < ρ.length := (List.getElem?_eq_some_iff.mp hx).1
  refine lc_filter (ds := xs.map .str) (f := fun d => !((ys.map PyData.str).any fun z => PyData.eqv z d)) (b := b) (fun P' h => ?_) hx (fun x hxm P' h => ?_) (by rw [List.length_map, sizeLine_eq]; omega) ?_
  · unfold wName
    rw [hj]
    exact h
  · obtain ⟨z, hz, rfl⟩ := List.mem_map.mp hxm
    unfold wB wOp wName
    rw [List.getElem?_set_self hlt]
    simp only
    rw [List.getElem?_set_ne hne, hm]
    refine ⟨b2, ys.map .str, rfl, shaped_str (kx z hz), ?_, ?_⟩
    · cases b2
      · exact shaped_list ky
      · exact shaped_tuple ky
    · exact h
  · rw [filter_texts]
    have e : (xs.filter fun x => !((ys.map PyData.str).any fun z => PyData.eqv z (.str x))) = xs.filter fun x => !decide (x ∈ ys) := List.filter_congr fun x _ => by rw [any_texts]
    rw [e]
    exact q
abbrev cW4 : WS := wRet (wTup (wCons (wName 5) (wCons (wName 6) (wCons (wName 3) (wCons (wName 4) wNil)))))
abbrev cF (j : Nat) : WS := wSet j (wTuple1 (wN (wLc (wName j) (gvName 10) (wB (wOp (gIn true) (wName 10) (wName 9))) (wName 10) [10])))
abbrev cW3 : WS := wSeq (wIfS (wTru (wName 9)) (wSeq (cF 3) (cF 4)) wNext) cW4
abbrev cW2 : WS := wSeq (wIfS (wTru (wName 8)) (wSet 4 (wTuple1 (wN (wSortedD (wN (wLst (wStar (wName 4) (wStar (wName 8) wNil)))))))) wNext) cW3
theorem len_cat (a b : List Str) : (a.map PyData.str ++ (b.map PyData.str ++ [])).length = a.length + b.length := by simp
theorem ok_changed_base (T : Top K mg) : FnOk P w K mg base (L2.CX P w) 1 T.a_changed_base T.d_changed_base ["base", "change"] (spV K 2 tChg) := by
  refine fn_pure T.F_changed_base sc_changed_base rfl fun c A o s H E hr => ?_
  have nd := sc_changed_base.nd
  have hu := hr.units
  have hu5 : (A.deeper (envOfC "changed_base" (defScope s_changed_base) s.heap.objs.size T.a_changed_base c)).units + 65 < cLine := by have := hr.un; omega
  refine ⟨_, _, (svs_cons (sv_asg (ev_name 0) (gv_seq rfl (gvs_cons (gv_name 2 nd) (gvs_cons (gv_name 2 nd) (gvs_cons (gv_name 3 nd) (gvs_cons (gv_name 4 nd) gvs_nil))))))
      (svs_cons (sv_asg (ev_name 1) (gv_seq rfl (gvs_cons (gv_name 5 nd) (gvs_cons (gv_name 6 nd) (gvs_cons (gv_name 7 nd) (gvs_cons (gv_name 8 nd) (gvs_cons (gv_name 9 nd) gvs_nil)))))))
      (svs_cons (sv_if (et_tru (ev_name 7)) (svs_one (sv_augT 3 nd (ev_tuple1 T.b_tuple (en_lc (tt := tTest (tOp (rInQ K true) (tVar 10) (tVar 3))) [("name", 10)] rfl nd (ev_name 7) (blkOk_by (N := N_changed_base) (sc := defScope s_changed_base) (by decide +kernel)) (fun _ _ _ _ _ => (gv_name 10 nd)) (fun _ _ _ _ _ => ets_one (et_notIn hu5 (ev_name 10) (ev_name 3))) (fun _ _ _ _ _ => (ev_name 10)) (by decide)).ev))) svs_nil)
      (svs_cons (sv_if (et_tru (ev_name 8)) (svs_one (sv_set 4 nd (ev_tuple1 T.b_tuple (en_sortedD hu T.b_sorted (en_lst (ea_star (ev_name 4) (ea_star (ev_name 8) ea_nil))).ev).ev))) svs_nil)
      (svs_cons (sv_if (et_tru (ev_name 9)) (svs_cons (sv_set 3 nd (ev_tuple1 T.b_tuple (en_lc (tt := tTest (tOp (rInQ K true) (tVar 10) (tVar 9))) [("name", 10)] rfl nd (ev_name 3) (blkOk_by (N := N_changed_base) (sc := defScope s_changed_base) (by decide +kernel)) (fun _ _ _ _ _ => (gv_name 10 nd)) (fun _ _ _ _ _ => ets_one (et_notIn hu5 (ev_name 10) (ev_name 9))) (fun _ _ _ _ _ => (ev_name 10)) (by decide)).ev))
      (svs_one (sv_set 4 nd (ev_tuple1 T.b_tuple (en_lc (tt := tTest (tOp (rInQ K true) (tVar 10) (tVar 9))) [("name", 10)] rfl nd (ev_name 4) (blkOk_by (N := N_changed_base) (sc := defScope s_changed_base) (by decide +kernel)) (fun _ _ _ _ _ => (gv_name 10 nd)) (fun _ _ _ _ _ => ets_one (et_notIn hu5 (ev_name 10) (ev_name 9))) (fun _ _ _ _ _ => (ev_name 10)) (by decide)).ev)))) svs_nil)
      (svs_one (sv_ret (ev_tup (ea_cons (ev_name 5) (ea_cons (ev_name 6) (ea_cons (ev_name 3) (ea_cons (ev_name 4) ea_nil)))))))))))), fun ds P' hl hT => ?_⟩
  obtain ⟨b, c, o, sh, su, go, rfl, hok, ⟨z1, z2, z3, z4, z5⟩, q⟩ := hT
  have k1 : ∀ x ∈ b.pub, okS x := fun x h => hok x (by simp [h])
  have k2 : ∀ x ∈ b.deep, okS x := fun x h => hok x (by simp [h])
  have k3 : ∀ x ∈ sh, okS x := fun x h => hok x (by simp [h])
  have k4 : ∀ x ∈ su, okS x := fun x h => hok x (by simp [h])
  have k5 : ∀ x ∈ go, okS x := fun x h => hok x (by simp [h])
  obtain ⟨bc, bo, pub, deep⟩ := b
  replace z1 : pub.length ≤ 400 := z1
  replace z2 : deep.length ≤ 400 := z2
  replace k1 : ∀ x ∈ pub, okS x := k1
  replace k2 : ∀ x ∈ deep, okS x := k2
  simp only [Bs.d, chT, textsD, textsT] at q ⊢
  walk_at "tr"
  refine ⟨rfl, ?_⟩
  refine Tr.Later.now ?_
  walk_at "tr"
  refine ⟨rfl, ?_⟩
  refine Tr.Later.now ?_
  walk_at "tr"
  have tru : ∀ (xs : List Str) {Y N : Prop}, (xs ≠ [] → Y) → (xs = [] → N) → ∃ b ds, PyData.list (xs.map .str) = seqOf b ds ∧ if (!ds.isEmpty) = true then Y else N := fun xs Y N h1 h2 => by
    refine ⟨false, xs.map .str, rfl, ?_⟩
    cases xs with
    | nil => exact h2 rfl
    | cons x xs => exact h1 (by simp)
  let N : Nd := { nx := fun _ => P' .none, rt := fun d _ => P' d }
  let R : List Str → List Str → En := fun pub1 deep1 => [.val (.tuple [natsT bc, natsT bo, .tuple (pub.map .str), .tuple (deep.map .str)]), .val (.tuple [natsT c, natsT o, .list (sh.map .str), .list (su.map .str), .list (go.map .str)]), .val (natsT bo), .val (.tuple (pub1.map .str)), .val (.tuple (deep1.map .str)), .val (natsT c), .val (natsT o), .val (.list (sh.map .str)), .val (.list (su.map .str)), .val (.list (go.map .str)), .un]
  have end4 : ∀ (pub1 deep1 : List Str), P' (PyData.tuple [natsT c, natsT o, textsT pub1, textsT deep1]) → Tr.Later cW4 (R pub1 deep1) N := fun pub1 deep1 h => by
    refine Tr.Later.now ?_
    simp only [R]
    walk_at "tr"
    exact ⟨by rw [sizeLine_eq]; omega, h⟩
  have end3 : ∀ (pub1 deep1 : List Str), (∀ x ∈ pub1, okS x) → (∀ x ∈ deep1, okS x) → pub1.length ≤ 1000 → deep1.length ≤ 1000 → P' (PyData.tuple [natsT c, natsT o, textsT (pub1.filter fun x => !decide (x ∈ go)), textsT (deep1.filter fun x => !decide (x ∈ go))]) → Tr.Later cW3 (R pub1 deep1) N := fun pub1 deep1 o1 o2 l1 l2 h => by
    refine Tr.Later.now ?_
    simp only [R]
    walk_at "tr"
    refine tru go (fun _ => ?_) (fun e => ?_)
    · refine Tr.Later.now ?_
      walk_at "tr"
      refine lc_notIn (b := true) (b2 := false) rfl rfl rfl (by decide) o1 k5 l1 ?_
      walk_at "tr"
      refine Tr.Later.now ?_
      walk_at "tr"
      refine lc_notIn (b := true) (b2 := false) rfl rfl rfl (by decide) o2 k5 l2 ?_
      exact end4 _ _ h
    · subst e
      rw [filter_none, filter_none] at h
      refine Tr.Later.now ?_
      exact end4 _ _ h
  have end2 : ∀ (pub1 : List Str), (∀ x ∈ pub1, okS x) → pub1.length ≤ 1000 → P' (PyData.tuple [natsT c, natsT o, textsT (pub1.filter fun x => !decide (x ∈ go)), textsT ((if su = [] then deep else srt (deep ++ su)).filter fun x => !decide (x ∈ go))]) → Tr.Later cW2 (R pub1 deep) N := fun pub1 o1 l1 h => by
    refine Tr.Later.now ?_
    simp only [R]
    walk_at "tr"
    refine tru su (fun e => ?_) (fun e => ?_)
    · rw [if_neg e] at h
      refine Tr.Later.now ?_
      walk_at "tr"
      simp only [List.append_nil]
      rw [← List.map_append]
      have ok2 : ∀ x ∈ deep ++ su, okS x := fun x hx => (List.mem_append.mp hx).elim (k2 x) (k4 x)
      refine ⟨by rw [List.length_map, List.length_append, sizeLine_eq]; omega, _, rfl, nd_texts _, PySem.W.AllAlike.of fun a b => by simp [PySem.W.alike], PySem.W.Sortable.others fun b => ⟨(fun z => nomatch z), fun xs z => nomatch z⟩, by rw [List.length_map, List.length_append]; omega, fun x hx => ?_, ?_⟩
      · obtain ⟨z, _, rfl⟩ := List.mem_map.mp hx
        exact Nat.zero_le _
      · rw [srt_map]
        refine end3 pub1 (srt (deep ++ su)) o1 (fun x hx => ok2 x (srt_in.mp hx)) l1 ?_ h
        rw [srt_len, List.length_append]
        omega
    · rw [if_pos e] at h
      refine Tr.Later.now ?_
      exact end3 pub1 deep o1 k2 l1 (by omega) h
  refine tru sh (fun _ => ?_) (fun e => ?_)
  · refine Tr.Later.now ?_
    walk_at "tr"
    refine lc_notIn (b := false) (b2 := true) rfl rfl rfl (by decide) k3 k1 (by omega) ?_
    walk_at "tr"
    have hf : (sh.filter fun x => !decide (x ∈ pub)).length ≤ 400 := Nat.le_trans (List.length_filter_le _ _) z3
    refine ⟨by rw [sizeLine_eq]; omega, ?_⟩
    rw [← List.map_append]
    refine end2 _ (fun x hx => (List.mem_append.mp hx).elim (k1 x) fun hx => k3 x (List.mem_filter.mp hx).1) ?_ q
    rw [List.length_append]
    omega
  · subst e
    refine Tr.Later.now ?_
    refine end2 pub k1 (by omega) ?_
    simpa [chg, textsT] using q
end
end K12
set_option Elab.async false
set_option linter.all false
set_option maxRecDepth 100000
set_option maxHeartbeats 4000000
namespace K12
open PySem PySem.Spec PyProof.Rows L2 Tr
variable [Tabbed]
local macro_rules | `(tactic| walk_at "tr") => `(tactic| simp only [wOwn, wRet, wRetN, wExpr, wAsg, wSet, wSetN, wPar, wParV0, wParN0, wAugI, wgNil, wgCons, wCall, wCall0, wCallM, wCallN, wIxO, wFn, wFn1, wFnN, wTuple1, wAppend, wPopAt, wSetO, wNeO, wIsN, wTup, wLst, wYes, wRep, wSliceL, wSliceT, wRev, wRevT, wIsLT, wIs1, wNeg, wChainI, wMinT, wCallRev, wTru, wInD, wSortedD, wSortedK, wNotN, wAugT, wSetDc, wDput, wNameD, wSlotGet, wSlotPut, wSetLeft, wItems, wFld, wFldO, wSetF, wSetFD, wMethO, wCallO, wMake, wStill, wParB, wSetB, wStar, wSortLam, insAt, objAt, ownAt, asInt, asNat, asList, asTuple, someOf, seqItems, at0, at1, at2, at3, wIf, wB, wOp, wOpN, wName, wLook, wN, wC, wAnd, wOr, wNot, wAndV, wOrV, wNotV, wSeq, wNext, wIfS, wNil, wCons, wPart, wgSeq, gvName, wTurn, wipeE, gI, gI0, gEq, gNe, gLen, gIx, gInt, gAbs, gMin2, gList, gTup1, gMulS, gAll, gCatL, gCatT, gRepT, Tr.isNone, Tr.isLT, Tr.top, Tr.isTup, Tr.isInt, Tr.isBool, startE, startM, startO, putT, List.map_cons, List.map_nil, List.length_cons, List.length_nil, List.cons_append, List.nil_append, List.getElem?_cons_zero, List.getElem?_cons_succ, List.set_cons_zero, List.set_cons_succ, List.replicate, List.length_map, if_true, if_false, Bool.false_eq_true, reduceIte, List.mem_cons, List.not_mem_nil, or_false, forall_eq, forall_eq_or_imp, false_implies, implies_true, true_and, and_true, Option.bind_some, Option.map_some, Option.map_none, Int.reduceLT, Int.reduceLE, Int.reduceToNat, Int.toNat_zero, Int.toNat_one, Int.toNat_natCast, Nat.reduceAdd, Nat.reduceLT, decide_true, List.set, Int.add_zero, Int.zero_add])
section
variable {P : Program} {w : World} {K : PySem.W.Frag} {mg : Str → Option Value} {base : Heap}
/-! ### opening, closing -/
def pubK (p : Plot) (k : Nat) : List Str := (inL p "global").getD k []
def deepK (p : Plot) (k : Nat) : List Str := (inL p "deep").getD k []
theorem inL_at {p : Plot} {m : Str} {k : Nat} (h : k < p.doors.length) : (inL p m)[k]? = some ((inL p m).getD k []) := by
  have hl : k < (inL p m).length := by
    unfold inL
    rw [List.length_map]
    exact h
  rw [List.getD_eq_getElem?_getD, List.getElem?_eq_getElem hl]
  rfl
theorem inL_sub {p : Plot} {m : Str} {k : Nat} : (inL p m).getD k [] = rowK p k ∨ (inL p m).getD k [] = [] := by
  unfold rowK inL rowsL
  rw [List.getD_eq_getElem?_getD, List.getD_eq_getElem?_getD, List.getElem?_map, List.getElem?_map]
  cases p.doors[k]? with
  | none => exact .inl rfl
  | some d =>
    show (if d.2 = m then rowOf p [d.1] else []) = rowOf p [d.1] ∨ (if d.2 = m then rowOf p [d.1] else []) = []
    by_cases e : d.2 = m
    · exact .inl (if_pos e)
    · exact .inr (if_neg e)
theorem inL_own {p : Plot} (hp : p.Ok) {m : Str} {k : Nat} : (∀ x ∈ (inL p m).getD k [], x ∈ rowK p k) ∧ ((inL p m).getD k []).Nodup ∧ ((inL p m).getD k []).length ≤ 10 := by
  rcases inL_sub (p := p) (m := m) (k := k) with e | e
  · rw [e]
    exact ⟨fun x h => h, (rowK_own hp).2⟩
  · rw [e]
    exact ⟨fun x h => (nomatch h), List.Pairwise.nil, Nat.zero_le _⟩
structure Chg where
  c : List Nat
  o : List Nat
  sh : List Str
  su : List Str
  go : List Str
def Chg.d (x : Chg) : PyData := chT x.c x.o x.sh x.su x.go
def openCh (p : Plot) (c o : List Nat) (k : Nat) : Chg := if k ∈ o then ⟨c.set k (c.getD k 0 + 1), o, [], [], []⟩ else ⟨c.set k (c.getD k 0 + 1), o ++ [k], pubK p k, (deepK p k).filter fun x => !decide (x ∈ thereOf p o), []⟩
def closeCh (p : Plot) (c o : List Nat) (k : Nat) : Chg := if 0 < c.getD k 0 - 1 then ⟨c.set k (c.getD k 0 - 1), o, [], [], []⟩ else
  ⟨c.set k (c.getD k 0 - 1), o.filter fun j => !decide (j = k), [], [], (rowK p k).filter fun x => !decide (x ∈ thereOf p (o.filter fun j => !decide (j = k)))⟩
theorem any_ints (o : List Nat) (k : Nat) : ((o.map intT).any fun z => PyData.eqv z (.int (k : Int))) = decide (k ∈ o) := by
  induction o with
  | nil => rfl
  | cons j o ih =>
    rw [List.map_cons, List.any_cons, ih, show PyData.eqv (intT j) (.int (k : Int)) = decide (j = k) by unfold intT; rw [eqv_int]; exact decide_eq_decide.mpr (by omega)]
    by_cases e : j = k
    · simp [e]
    · have e' : ¬ k = j := fun z => e z.symm
      simp [e, e']
theorem shaped_int (i : Int) : SeqAt.shaped (.int i) = true := (good_int (n := 0) i).shaped (by decide)
theorem shaped_nats (o : List Nat) : SeqAt.shaped (.tuple (o.map intT)) = true := (good_tuple (n := 0) fun d hd => by
  obtain ⟨x, m, rfl⟩ := List.mem_map.mp hd
  exact good_int _).shaped (by decide)
theorem getD_at {c : List Nat} {k : Nat} (h : k < c.length) : (c.map intT)[k]? = some (.int (c.getD k 0 : Nat)) := by
  rw [List.getElem?_map, List.getElem?_eq_getElem h, List.getD_eq_getElem?_getD, List.getElem?_eq_getElem h]
  rfl
def tOpening (C : Addr) : TSp := fun ds Q => ∃ (p : Plot) (c o : List Nat) (k : Nat), p.Ok ∧ k < p.doors.length ∧ c.length = p.doors.length ∧ (∀ j ∈ o, j < p.doors.length) ∧ o.length ≤ 100 ∧ ds = [layT C p, natsT c, natsT o, .int (k : Int)] ∧ Q (openCh p c o k).d
theorem lc_notInD {m ix : Nat} {xs ys : List Str} {b : Bool} {wi : W1} {ρ : En} {P : List PyData → En → Prop} (hwi : ∀ P', P' (seqOf b (xs.map .str)) ρ → wi ρ P') (hm : ρ[m]? = some (.val (dcT (ofKeys ys)))) (hx : ρ[ix]? = some .un) (hne : ix ≠ m)
    (hl : xs.length ≤ 1000) (q : P ((xs.filter fun x => !decide (x ∈ ys)).map .str) ρ) : wLc wi (gvName ix) (wB (wInD true (wName ix) (wName m))) (wName ix) [ix] ρ P := by
  have hlt : ix < ρ.length := (List.getElem?_eq_some_iff.mp hx).1
  refine lc_filter (ds := xs.map .str) (f := fun d => match d with | .str z => !decide (z ∈ ys) | _ => false) (b := b) hwi hx (fun x hxm P' h => ?_) (by rw [List.length_map, sizeLine_eq]; omega) ?_
  · obtain ⟨z, hz, rfl⟩ := List.mem_map.mp hxm
    unfold wB wInD wName
    rw [List.getElem?_set_self hlt]
    simp only
    rw [List.getElem?_set_ne hne, hm]
    refine ⟨z, ofKeys ys, rfl, rfl, ?_⟩
    rw [keys_of]
    exact h
  · rw [filter_texts]
    exact q
theorem ok_opening (T : Top K mg) : FnOk P w K mg base (L2.CX P w) 2 T.a_opening T.d_opening ["layout", "counts", "order", "k"] (spV K 4 (tOpening T.C_L)) := by
  refine fn_pure T.F_opening sc_opening rfl fun c A o s H E hr => ?_
  have nd := sc_opening.nd
  have hu := hr.units
  have hu1 := hu_of hr
  have hu5 : (A.deeper (envOfC "opening" (defScope s_opening) s.heap.objs.size T.a_opening c)).units + 65 < cLine := by have := hr.un; omega
  refine ⟨_, _, (svs_cons (sv_set 1 nd (ev_call (ok_with_count T) (hr.mono (by decide)) T.m_with_count T.F_with_count.kp T.B_with_count (ea_cons (ev_name 1) (ea_cons (ev_name 3) (ea_cons (ev_add (ev_ix (ev_name 1) (ev_name 3)) ev_int) ea_nil)))))
      (svs_cons (sv_if (et_in hu5 (ev_name 3) (ev_name 2)) (svs_one (sv_ret (ev_tup (ea_cons (ev_name 1) (ea_cons (ev_name 2) (ea_cons (en_lst ea_nil).ev (ea_cons (en_lst ea_nil).ev (ea_cons (en_lst ea_nil).ev ea_nil)))))))) svs_nil)
      (svs_cons (sv_set 4 nd (ev_call (ok_names_there T) (hr.mono (by decide)) T.m_names_there T.F_names_there.kp T.B_names_there (ea_cons (ev_name 0) (ea_cons (ev_name 2) ea_nil))))
      (svs_cons (sv_setLc 5 [("name", 6)] rfl nd (ev_ix (ev_fld T.c_L T.n_L_into_deep (ev_name 0)) (ev_name 3)) (blkOk_by (N := N_opening) (sc := defScope s_opening) (by decide +kernel)) (sw_true rfl rfl rfl (by decide +kernel)) (fun _ _ _ _ _ => (gv_name 6 nd)) (fun _ _ _ _ _ => ets_one (et_notInD hu1 (ev_name 6) (ev_name 4))) (fun _ _ _ _ _ => (ev_name 6)) (by decide))
      (svs_one (sv_ret (ev_tup (ea_cons (ev_name 1) (ea_cons (ev_catT (ev_name 2) (ev_tup (ea_cons (ev_name 3) ea_nil))) (ea_cons (ev_ix (ev_fld T.c_L T.n_L_into_public (ev_name 0)) (ev_name 3)) (ea_cons (ev_name 5) (ea_cons (en_lst ea_nil).ev ea_nil)))))))))))), fun ds P' hl hT => ?_⟩
  obtain ⟨p, c, o, k, hp, hk, hc, ho, hol, rfl, q⟩ := hT
  have hkc : k < c.length := by omega
  have hd : p.doors.length ≤ 10 := hp.doors.2
  simp only [natsT]
  walk_at "tr"
  rw [atI_nat, getD_at hkc]
  walk_at "tr"
  refine ⟨c, k, _, c.getD k 0 + 1, by omega, hkc, by omega, rfl, ?_⟩
  refine Tr.Later.now ?_
  simp only [natsT]
  walk_at "tr"
  refine ⟨true, _, rfl, shaped_int _, shaped_nats o, ?_⟩
  rw [any_ints]
  simp only [Bool.false_eq_true, if_false]
  unfold openCh at q
  by_cases e : k ∈ o
  · rw [if_pos e] at q
    rw [if_pos (by simpa using e)]
    refine Tr.Later.now ?_
    walk_at "tr"
    refine ⟨?_, ?_, ?_, ?_, q⟩ <;> (rw [sizeLine_eq]; omega)
  · rw [if_neg e] at q
    rw [if_neg (by simpa using e)]
    refine Tr.Later.now ?_
    walk_at "tr"
    refine Tr.Later.now ?_
    walk_at "tr"
    refine ⟨p, o, hp, ho, by omega, rfl, ?_⟩
    refine Tr.Later.now ?_
    walk_at "tr"
    refine lc_notInD (b := false) (xs := deepK p k) (ys := thereOf p o) (fun P' h => ?_) rfl rfl (by decide) ?_ ?_
    · walk_at "tr"
      refine ⟨layFs p, _, rfl, lk_deep p, ?_⟩
      unfold rowsT
      walk_at "tr"
      rw [atI_nat, textsD_at (inL_at hk)]
      exact h
    · have := (inL_own hp (m := "deep") (k := k)).2.2
      unfold deepK
      omega
    · refine Tr.Later.now ?_
      walk_at "tr"
      refine ⟨by rw [sizeLine_eq]; omega, by rw [sizeLine_eq]; omega, layFs p, _, rfl, lk_pub p, ?_⟩
      unfold rowsT
      walk_at "tr"
      rw [atI_nat, textsD_at (inL_at hk)]
      refine ⟨by rw [sizeLine_eq]; omega, by rw [sizeLine_eq]; omega, ?_⟩
      unfold Chg.d chT natsT at q
      simp only [List.map_append, List.map_cons, List.map_nil] at q
      exact q
def tClosing (C : Addr) : TSp := fun ds Q => ∃ (p : Plot) (c o : List Nat) (k : Nat), p.Ok ∧ k < p.doors.length ∧ c.length = p.doors.length ∧ 0 < c.getD k 0 ∧ (∀ j ∈ o, j < p.doors.length) ∧ o.length ≤ 100 ∧ ds = [layT C p, natsT c, natsT o, .int (k : Int)] ∧ Q (closeCh p c o k).d
theorem filter_ints (o : List Nat) (k : Nat) : (o.map intT).filter (fun d => !PyData.eqv d (.int (k : Int))) = (o.filter fun j => !decide (j = k)).map intT := by
  rw [List.filter_map]
  refine congrArg _ (List.filter_congr fun j _ => ?_)
  show (!PyData.eqv (intT j) (.int (k : Int))) = _
  unfold intT
  rw [eqv_int]
  exact congrArg _ (decide_eq_decide.mpr (by omega))
theorem getD_set {c : List Nat} {k n : Nat} (h : k < c.length) : ((c.set k n).map intT)[k]? = some (.int (n : Nat)) := by
  rw [List.getElem?_map, List.getElem?_set_self h]
  rfl
theorem ok_closing (T : Top K mg) : FnOk P w K mg base (L2.CX P w) 2 T.a_closing T.d_closing ["layout", "counts", "order", "k"] (spV K 4 (tClosing T.C_L)) := by
  refine fn_pure T.F_closing sc_closing rfl fun c A o s H E hr => ?_
  have nd := sc_closing.nd
  have hu := hr.units
  have hu1 := hu_of hr
  have hu5 : (A.deeper (envOfC "closing" (defScope s_closing) s.heap.objs.size T.a_closing c)).units + 65 < cLine := by have := hr.un; omega
  refine ⟨_, _, (svs_cons (sv_set 1 nd (ev_call (ok_with_count T) (hr.mono (by decide)) T.m_with_count T.F_with_count.kp T.B_with_count (ea_cons (ev_name 1) (ea_cons (ev_name 3) (ea_cons (ev_sub (ev_ix (ev_name 1) (ev_name 3)) ev_int) ea_nil)))))
      (svs_cons (sv_if (et_gt (ev_ix (ev_name 1) (ev_name 3)) ev_int) (svs_one (sv_ret (ev_tup (ea_cons (ev_name 1) (ea_cons (ev_name 2) (ea_cons (en_lst ea_nil).ev (ea_cons (en_lst ea_nil).ev (ea_cons (en_lst ea_nil).ev ea_nil)))))))) svs_nil)
      (svs_cons (sv_set 2 nd (ev_tuple1 T.b_tuple (en_lc (tt := tTest (tOp (rNeD K) (tVar 4) (tVar 3))) [("door", 4)] rfl nd (ev_name 2) (blkOk_by (N := N_closing) (sc := defScope s_closing) (by decide +kernel)) (fun _ _ _ _ _ => (gv_name 4 nd)) (fun _ _ _ _ _ => ets_one (et_ne hu (ev_name 4) (ev_name 3))) (fun _ _ _ _ _ => (ev_name 4)) (by decide)).ev))
      (svs_cons (sv_set 5 nd (ev_call (ok_names_there T) (hr.mono (by decide)) T.m_names_there T.F_names_there.kp T.B_names_there (ea_cons (ev_name 0) (ea_cons (ev_name 2) ea_nil))))
      (svs_one (sv_ret (ev_tup (ea_cons (ev_name 1) (ea_cons (ev_name 2) (ea_cons (en_lst ea_nil).ev (ea_cons (en_lst ea_nil).ev (ea_cons (en_lc [("name", 6)] rfl nd (ev_ix (ev_fld T.c_L T.n_L_rows (ev_name 0)) (ev_name 3)) (blkOk_by (N := N_closing) (sc := defScope s_closing) (by decide +kernel)) (fun _ _ _ _ _ => (gv_name 6 nd)) (fun _ _ _ _ _ => ets_one (et_notInD hu1 (ev_name 6) (ev_name 5))) (fun _ _ _ _ _ => (ev_name 6)) (by decide)).ev ea_nil)))))))))))), fun ds P' hl hT => ?_⟩
  obtain ⟨p, c, o, k, hp, hk, hc, hpos, ho, hol, rfl, q⟩ := hT
  have hkc : k < c.length := by omega
  have hd : p.doors.length ≤ 10 := hp.doors.2
  simp only [natsT]
  walk_at "tr"
  rw [atI_nat, getD_at hkc]
  walk_at "tr"
  refine ⟨c, k, _, c.getD k 0 - 1, by omega, hkc, by omega, rfl, ?_⟩
  refine Tr.Later.now ?_
  simp only [natsT]
  walk_at "tr"
  rw [atI_nat, getD_set hkc]
  walk_at "tr"
  unfold closeCh at q
  by_cases e : 0 < c.getD k 0 - 1
  · rw [if_pos e] at q
    rw [if_pos (by simpa using e)]
    refine Tr.Later.now ?_
    walk_at "tr"
    refine ⟨?_, ?_, ?_, ?_, q⟩ <;> (rw [sizeLine_eq]; omega)
  · rw [if_neg e] at q
    rw [if_neg (by simpa using e)]
    refine Tr.Later.now ?_
    walk_at "tr"
    refine Tr.Later.now ?_
    walk_at "tr"
    refine lc_filter (ds := o.map intT) (f := fun d => !PyData.eqv d (.int (k : Int))) (b := true) (fun P' h => by walk_at "tr"; exact h) rfl (fun x hx P' h => ?_) (by rw [List.length_map, sizeLine_eq]; omega) ?_
    · obtain ⟨j, _, rfl⟩ := List.mem_map.mp hx
      walk_at "tr"
      exact ⟨shaped_int _, shaped_int _, h⟩
    · rw [filter_ints]
      walk_at "tr"
      refine Tr.Later.now ?_
      walk_at "tr"
      have ho2 : (o.filter fun j => !decide (j = k)).length ≤ 100 := Nat.le_trans (List.length_filter_le _ _) hol
      refine ⟨p, o.filter fun j => !decide (j = k), hp, fun j hj => ho j (List.mem_filter.mp hj).1, by omega, rfl, ?_⟩
      refine Tr.Later.now ?_
      walk_at "tr"
      refine ⟨by rw [sizeLine_eq]; omega, by rw [sizeLine_eq]; omega, ?_⟩
      refine lc_notInD (b := false) (xs := rowK p k) (ys := thereOf p (o.filter fun j => !decide (j = k))) (fun P' h => ?_) rfl rfl (by decide) ?_ ?_
      · walk_at "tr"
        refine ⟨layFs p, _, rfl, lk_rows p, ?_⟩
        unfold rowsT
        walk_at "tr"
        rw [atI_nat, textsD_at (rowsL_at hk)]
        exact h
      · have := (rowK_own hp (k := k)).2.2
        omega
      · exact ⟨by rw [sizeLine_eq]; omega, q⟩
/-! ### bases that stand -/
structure Bs.Ok (p : Plot) (b : Bs) : Prop where
  cl : b.counts.length = p.doors.length
  cs : ∀ c ∈ b.counts, c ≤ 2
  ol : ∀ k ∈ b.order, k < p.doors.length
  on : b.order.Nodup
  pub : (∀ x ∈ b.pub, x ∈ thereOf p b.order) ∧ b.pub.Nodup
  deep : (∀ x ∈ b.deep, x ∈ thereOf p b.order) ∧ b.deep.Nodup
theorem nd_below : ∀ (n : Nat) (l : List Nat), l.Nodup → (∀ k ∈ l, k < n) → l.length ≤ n
  | 0, l, _, h => by
    cases l with
    | nil => exact Nat.le_refl _
    | cons x l => exact absurd (h x List.mem_cons_self) (Nat.not_lt_zero _)
  | n + 1, l, hn, h => by
    have h1 := nd_below n (l.erase n) (hn.erase n) fun k hk => by
      have := h k (List.mem_of_mem_erase hk)
      have hne : k ≠ n := fun z => by
        rw [z] at hk
        exact (List.Nodup.mem_erase_iff hn).mp hk |>.1 rfl
      omega
    have h2 := List.length_erase_le (a := n) (l := l)
    have h3 : l.length ≤ (l.erase n).length + 1 := by
      rw [List.length_erase]
      split <;> omega
    omega
theorem Bs.Ok.olen {p : Plot} {b : Bs} (hp : p.Ok) (h : b.Ok p) : b.order.length ≤ 10 := Nat.le_trans (nd_below _ _ h.on h.ol) hp.doors.2
theorem Bs.Ok.publen {p : Plot} {b : Bs} (hp : p.Ok) (h : b.Ok p) : b.pub.length ≤ 10 := Nat.le_trans (nd_le _ _ h.pub.2 h.pub.1) (there_len hp _)
theorem Bs.Ok.deeplen {p : Plot} {b : Bs} (hp : p.Ok) (h : b.Ok p) : b.deep.length ≤ 10 := Nat.le_trans (nd_le _ _ h.deep.2 h.deep.1) (there_len hp _)
theorem okOwn {p : Plot} (hp : p.Ok) {x : Str} (h : x ∈ p.owns) : okS x := own_ok hp h
theorem Bs.Ok.names {p : Plot} {b : Bs} (hp : p.Ok) (h : b.Ok p) : (∀ x ∈ b.pub, okS x) ∧ ∀ x ∈ b.deep, okS x :=
  ⟨fun x hx => okOwn hp (there_own hp _ x (h.pub.1 x hx)), fun x hx => okOwn hp (there_own hp _ x (h.deep.1 x hx))⟩
def openB (p : Plot) (b : Bs) (k : Nat) : Bs := let x := openCh p b.counts b.order k; chg b x.c x.o x.sh x.su x.go
def closeB (p : Plot) (b : Bs) (k : Nat) : Bs := let x := closeCh p b.counts b.order k; chg b x.c x.o x.sh x.su x.go
def tOpened (C : Addr) : TSp := fun ds Q => ∃ (p : Plot) (b : Bs) (k : Nat), p.Ok ∧ b.Ok p ∧ k < p.doors.length ∧ ds = [layT C p, b.d, .int (k : Int)] ∧ Q (openB p b k).d
def tClosed (C : Addr) : TSp := fun ds Q => ∃ (p : Plot) (b : Bs) (k : Nat), p.Ok ∧ b.Ok p ∧ k < p.doors.length ∧ 0 < b.counts.getD k 0 ∧ ds = [layT C p, b.d, .int (k : Int)] ∧ Q (closeB p b k).d
theorem open_names {p : Plot} (hp : p.Ok) {c o : List Nat} {k : Nat} : let x := openCh p c o k; (∀ z ∈ x.sh ++ x.su ++ x.go, okS z) ∧ x.sh.length ≤ 10 ∧ x.su.length ≤ 10 ∧ x.go.length ≤ 10 := by
  unfold openCh
  have a := inL_own hp (m := "global") (k := k)
  have b := inL_own hp (m := "deep") (k := k)
  have r := rowK_own hp (k := k)
  split
  · exact ⟨fun z h => by simp at h, Nat.zero_le _, Nat.zero_le _, Nat.zero_le _⟩
  · refine ⟨fun z h => ?_, a.2.2, Nat.le_trans (List.length_filter_le _ _) b.2.2, Nat.zero_le _⟩
    simp only [List.append_nil, List.mem_append] at h
    rcases h with h | h
    · exact okOwn hp (r.1 z (a.1 z h))
    · exact okOwn hp (r.1 z (b.1 z (List.mem_filter.mp h).1))
theorem close_names {p : Plot} (hp : p.Ok) {c o : List Nat} {k : Nat} : let x := closeCh p c o k; (∀ z ∈ x.sh ++ x.su ++ x.go, okS z) ∧ x.sh.length ≤ 10 ∧ x.su.length ≤ 10 ∧ x.go.length ≤ 10 := by
  unfold closeCh
  have r := rowK_own hp (k := k)
  split
  · exact ⟨fun z h => by simp at h, Nat.zero_le _, Nat.zero_le _, Nat.zero_le _⟩
  · refine ⟨fun z h => ?_, Nat.zero_le _, Nat.zero_le _, Nat.le_trans (List.length_filter_le _ _) r.2.2⟩
    simp only [List.nil_append] at h
    exact okOwn hp (r.1 z (List.mem_filter.mp h).1)
theorem ok_opened_base (T : Top K mg) : FnOk P w K mg base (L2.CX P w) 3 T.a_opened_base T.d_opened_base ["layout", "base", "k"] (spV K 3 (tOpened T.C_L)) := by
  refine fn_pure T.F_opened_base sc_opened_base rfl fun c A o s H E hr => ?_
  refine ⟨_, _, (svs_one (sv_ret (ev_call (ok_changed_base T) (hr.mono (by decide)) T.m_changed_base T.F_changed_base.kp T.B_changed_base (ea_cons (ev_name 1) (ea_cons (ev_call (ok_opening T) (hr.mono (by decide)) T.m_opening T.F_opening.kp T.B_opening (ea_cons (ev_name 0) (ea_cons (ev_ix (ev_name 1) ev_int) (ea_cons (ev_ix (ev_name 1) ev_int) (ea_cons (ev_name 2) ea_nil))))) ea_nil))))), fun ds P' hl hT => ?_⟩
  obtain ⟨p, b, k, hp, hb, hk, rfl, q⟩ := hT
  obtain ⟨n1, n2, n3, n4⟩ := open_names hp (c := b.counts) (o := b.order) (k := k)
  have p1 := hb.publen hp
  have p2 := hb.deeplen hp
  have p3 := hb.olen hp
  simp only [Bs.d]
  walk_at "tr"
  refine ⟨p, b.counts, b.order, k, hp, hk, hb.cl, hb.ol, by omega, rfl, b, _, _, _, _, _, rfl, fun x hx => ?_, ⟨by omega, by omega, by omega, by omega, by omega⟩, q⟩
  simp only [List.mem_append] at hx n1
  rcases hx with (((hx | hx) | hx) | hx) | hx
  · exact (hb.names hp).1 x hx
  · exact (hb.names hp).2 x hx
  · exact n1 x (.inl (.inl hx))
  · exact n1 x (.inl (.inr hx))
  · exact n1 x (.inr hx)
theorem ok_closed_base (T : Top K mg) : FnOk P w K mg base (L2.CX P w) 3 T.a_closed_base T.d_closed_base ["layout", "base", "k"] (spV K 3 (tClosed T.C_L)) := by
  refine fn_pure T.F_closed_base sc_closed_base rfl fun c A o s H E hr => ?_
  refine ⟨_, _, (svs_one (sv_ret (ev_call (ok_changed_base T) (hr.mono (by decide)) T.m_changed_base T.F_changed_base.kp T.B_changed_base (ea_cons (ev_name 1) (ea_cons (ev_call (ok_closing T) (hr.mono (by decide)) T.m_closing T.F_closing.kp T.B_closing (ea_cons (ev_name 0) (ea_cons (ev_ix (ev_name 1) ev_int) (ea_cons (ev_ix (ev_name 1) ev_int) (ea_cons (ev_name 2) ea_nil))))) ea_nil))))), fun ds P' hl hT => ?_⟩
  obtain ⟨p, b, k, hp, hb, hk, hpos, rfl, q⟩ := hT
  obtain ⟨n1, n2, n3, n4⟩ := close_names hp (c := b.counts) (o := b.order) (k := k)
  have p1 := hb.publen hp
  have p2 := hb.deeplen hp
  have p3 := hb.olen hp
  simp only [Bs.d]
  walk_at "tr"
  refine ⟨p, b.counts, b.order, k, hp, hk, hb.cl, hpos, hb.ol, by omega, rfl, b, _, _, _, _, _, rfl, fun x hx => ?_, ⟨by omega, by omega, by omega, by omega, by omega⟩, q⟩
  simp only [List.mem_append] at hx n1
  rcases hx with (((hx | hx) | hx) | hx) | hx
  · exact (hb.names hp).1 x hx
  · exact (hb.names hp).2 x hx
  · exact n1 x (.inl (.inl hx))
  · exact n1 x (.inl (.inr hx))
  · exact n1 x (.inr hx)
end
end K12
set_option Elab.async false
set_option linter.all false
set_option maxRecDepth 100000
set_option maxHeartbeats 4000000
/-! TrP5: a tuple times a number, one too -/
namespace Tr
open PySem PySem.Spec PyProof.Rows L2
variable [Tabbed]
theorem tup_mul1 (l : Addr) (items : Array Value) (n : Nat) (dd : Option Addr) (sl : Array (Option Value)) (x : Int) (u : Tok) (c0 : (decide (x < -(2 ^ 63)) || decide (x ≥ 2 ^ 63)) = false) (c1 : (items.isEmpty || x == 1) = true) :
    Meets (Builtin.«tuple.__mul__» ⟨[.ref l, .int x u], []⟩) (fun _ R t => t.heap.get? l = some { cls := .type "tuple", dict := dd, data := .seq items n, slots := sl } ∧ R (.ok (.ret (Value.ref l))) t) :=
  .of_wp fun prog w A R t h => by
    obtain ⟨hp, g, d, tk, os⟩ := t
    obtain ⟨hl, h⟩ := h
    have f1 := AutoSeq1.idx_int
    have f2 := AutoSeq1.sub_tuple_tuple
    wp_walk using wpAny_loadPart' hl
    refine wpAny_ite_false (decide_eq_false (by rw [c0]; exact Bool.false_ne_true)) ?_
    wp_walk using wpAny_loadPart' hl
    exact ⟨_, rfl, h⟩
def rRep1 (K : PySem.W.Frag) : R2 := fun x y H Q => ∃ l xs, x = .ref l ∧ y = .int 1 ∧ SqT K H l xs ∧ Q (.ref l) H
theorem op_rep1 {X : Cx} : OpR X (binaryOp .Mult) (rRep1 X.K) := by
  intro pins t0 σ H x y v u Q I rx ry h
  obtain ⟨l, xs, rfl, rfl, hT, q⟩ := h
  cases rx
  obtain ⟨t, rfl⟩ := ry
  obtain ⟨its, r, ⟨⟨cls, dd, data, sl⟩, ho, hc, n, hd⟩, hs⟩ := I.tuple hT
  simp only at hc hd
  subst hc hd
  refine wpAny_binaryOp_repeat_ref (T := "tuple") (U := "int") (by decide) ⟨_, ho, rfl⟩ (fun t' => typeIs_int t' 1 t) noFill_tuple_mul F.fills_int_mul F.slot_int_rmul repeat_tuple F.slot_int_index.lookup
    (call_meets F.slot_int_rmul (typeIs_int t0 1 t) F.entry_int_rmul (F.args_int_rmul_2 _ _) (int_rmul_tuple 1 t l its.toArray n dd sl)
      ⟨ho, rfl, ⟨_, ho, rfl⟩, call_meets F.slot_tuple_mul ⟨_, ho, rfl⟩ F.entry_tuple_mul (F.args_tuple_mul_2 _ _) (tup_mul1 l its.toArray n dd sl 1 t (by decide) (by simp)) ⟨ho, ?_⟩⟩)
  exact ⟨.ref l, H, I, rfl, q⟩
/-- a tuple times one or more -/
def rRepP (K : PySem.W.Frag) : R2 := fun x y H Q => rRep1 K x y H Q ∨ rRepT K x y H Q
theorem op_repP {X : Cx} : OpR X (binaryOp .Mult) (rRepP X.K) := fun pins t0 σ H x y v u Q I rx ry h => h.elim (op_rep1 pins t0 σ H x y v u Q I rx ry) (op_repT pins t0 σ H x y v u Q I rx ry)
def gRepP : PyData → PyData → (PyData → Prop) → Prop := fun x y P => match x, y with
  | .tuple ds, .int k => ds ≠ [] ∧ 1 ≤ k ∧ k ≤ 1000 ∧ ds.length ≤ 1000 ∧ P (.tuple (List.replicate k.toNat ds).flatten)
  | _, _ => False
theorem lift_repP {K : PySem.W.Frag} : Lift2T K (rRepP K) gRepP := fun S H x y d e P Q sm dx dy hg q q2 => by
  unfold gRepP at hg
  split at hg
  · rename_i ds k
    cases dy
    by_cases h : k = 1
    · subst h
      cases dx with
      | tup s1 a1 =>
        refine .inl ⟨_, _, rfl, rfl, same_sqT sm s1, q _ _ hg.2.2.2.2 ?_⟩
        have e : (List.replicate (1 : Int).toNat ds).flatten = ds := by simp
        rw [e]
        exact .tup s1 a1
    · refine .inr (lift_repT S H x (.int k) (.tuple ds) (.int k) P Q sm dx (.int k) ?_ q q2)
      exact ⟨hg.1, by omega, hg.2.2⟩
  · exact hg.elim
theorem ev_repP {X : Cx} {a b : Expr} {ta tb : TE} {wa wb : W1} {pos : Pos} (ha : EV X a ta wa) (hb : EV X b tb wb) : EV X (.BinOp a .Mult b pos) (tOp (rRepP X.K) ta tb) (wOp gRepP wa wb) := ⟨pe_op op_repP ha.pe hb.pe, snd_opT lift_repP ha.sd hb.sd⟩
end Tr
set_option Elab.async false
set_option linter.all false
set_option maxRecDepth 100000
set_option maxHeartbeats 4000000
namespace K12
open PySem PySem.Spec PyProof.Rows L2 Tr
variable [Tabbed]
local macro_rules | `(tactic| walk_at "tr") => `(tactic| simp only [wOwn, wRet, wRetN, wExpr, wAsg, wSet, wSetN, wPar, wParV0, wParN0, wAugI, wgNil, wgCons, wCall, wCall0, wCallM, wCallN, wIxO, wFn, wFn1, wFnN, wTuple1, wAppend, wPopAt, wSetO, wNeO, wIsN, wTup, wLst, wYes, wRep, wSliceL, wSliceT, wRev, wRevT, wIsLT, wIs1, wNeg, wChainI, wMinT, wCallRev, wTru, wInD, wSortedD, wSortedK, wNotN, wAugT, wSetDc, wDput, wNameD, wSlotGet, wSlotPut, wSetLeft, wItems, wFld, wFldO, wSetF, wSetFD, wMethO, wCallO, wMake, wStill, wParB, wSetB, wStar, wSortLam, insAt, objAt, ownAt, asInt, asNat, asList, asTuple, someOf, seqItems, at0, at1, at2, at3, wIf, wB, wOp, wOpN, wName, wLook, wN, wC, wAnd, wOr, wNot, wAndV, wOrV, wNotV, wSeq, wNext, wIfS, wNil, wCons, wPart, wgSeq, gvName, wTurn, wipeE, gI, gI0, gEq, gNe, gLen, gIx, gInt, gAbs, gMin2, gList, gTup1, gMulS, gAll, gCatL, gCatT, gRepT, gRepP, Tr.isNone, Tr.isLT, Tr.top, Tr.isTup, Tr.isInt, Tr.isBool, startE, startM, startO, putT, List.map_cons, List.map_nil, List.length_cons, List.length_nil, List.cons_append, List.nil_append, List.getElem?_cons_zero, List.getElem?_cons_succ, List.set_cons_zero, List.set_cons_succ, List.replicate, List.length_map, if_true, if_false, Bool.false_eq_true, reduceIte, List.mem_cons, List.not_mem_nil, or_false, forall_eq, forall_eq_or_imp, false_implies, implies_true, true_and, and_true, Option.bind_some, Option.map_some, Option.map_none, Int.reduceLT, Int.reduceLE, Int.reduceToNat, Int.toNat_zero, Int.toNat_one, Int.toNat_natCast, Nat.reduceAdd, Nat.reduceLT, decide_true, List.set, Int.add_zero, Int.zero_add])
section
variable {P : Program} {w : World} {K : PySem.W.Frag} {mg : Str → Option Value} {base : Heap}
/-! ### the first base, the layout made -/
def firstB (p : Plot) : Bs := ⟨List.replicate p.doors.length 0, [], firstL p, []⟩
def tFirstB (C : Addr) : TSp := fun ds Q => ∃ p : Plot, p.Ok ∧ ds = [layT C p] ∧ Q (firstB p).d
theorem rowsL_len (p : Plot) : (rowsL p).length = p.doors.length := List.length_map _
theorem zeros (n : Nat) : (List.replicate n [PyData.int 0]).flatten = (List.replicate n 0).map intT := by
  induction n with
  | zero => rfl
  | succ n ih =>
    rw [List.replicate_succ, List.flatten_cons, ih, List.replicate_succ]
    rfl
theorem ok_first_base (T : Top K mg) : FnOk P w K mg base (L2.CX P w) 1 T.a_first_base T.d_first_base ["layout"] (spV K 1 (tFirstB T.C_L)) := by
  refine fn_pure T.F_first_base sc_first_base rfl fun c A o s H E hr => ?_
  refine ⟨_, _, (svs_one (sv_ret (ev_tup (ea_cons (ev_repP (ev_tup (ea_cons ev_int ea_nil)) (ev_len T.b_len (ev_fld T.c_L T.n_L_rows (ev_name 0)).er)) (ea_cons (ev_tup ea_nil) (ea_cons (ev_tuple1 T.b_tuple (ev_fld T.c_L T.n_L_first_seen (ev_name 0))) (ea_cons (ev_tup ea_nil) ea_nil))))))), fun ds P' hl hT => ?_⟩
  obtain ⟨p, hp, rfl, q⟩ := hT
  have hd : p.doors.length ≤ 10 := hp.doors.2
  have hd0 := hp.any
  walk_at "tr"
  refine ⟨by rw [sizeLine_eq]; omega, layFs p, _, rfl, lk_rows p, ?_⟩
  unfold rowsT
  walk_at "tr"
  rw [rowsL_len]
  refine ⟨by simp, by omega, by omega, by omega, by rw [sizeLine_eq]; omega, layFs p, _, rfl, lk_seen p, ?_⟩
  unfold textsD
  walk_at "tr"
  refine ⟨by rw [sizeLine_eq]; omega, by rw [sizeLine_eq]; omega, ?_⟩
  rw [zeros]
  exact q
/-! ### along whom one looks -/
def looksOf (p : Plot) (b : Bs) (x : Str) : List Str := if x ∈ firstL p then b.pub else addNew (b.order.foldl (fun f k => if x ∈ rowK p k then addNew f (rowK p k) else f) (if x ∈ b.deep then [] else addNew [] b.pub)) b.pub
def tLooks (C : Addr) : TSp := fun ds Q => ∃ (p : Plot) (b : Bs) (x : Str), p.Ok ∧ b.Ok p ∧ okS x ∧ ds = [layT C p, b.d, .str x] ∧ Q (textsD (looksOf p b x))
theorem own_add {p : Plot} {f ns : List Str} (hf : (∀ x ∈ f, x ∈ p.owns) ∧ f.Nodup) (hn : ∀ x ∈ ns, x ∈ p.owns) : (∀ x ∈ addNew f ns, x ∈ p.owns) ∧ (addNew f ns).Nodup :=
  ⟨fun x h => (addNew_mem _ _ h).elim (hf.1 x) (hn x), addNew_nd _ _ hf.2⟩
theorem own_len {p : Plot} (hp : p.Ok) {f : List Str} (hf : (∀ x ∈ f, x ∈ p.owns) ∧ f.Nodup) : f.length ≤ 10 := Nat.le_trans (nd_le _ _ hf.2 hf.1) (owns_len hp)
theorem pub_own {p : Plot} {b : Bs} (hp : p.Ok) (h : b.Ok p) : ∀ x ∈ b.pub, x ∈ p.owns := fun x hx => there_own hp _ x (h.pub.1 x hx)
def lkStep (p : Plot) (x : Str) (f : List Str) (k : Nat) : List Str := if x ∈ rowK p k then addNew f (rowK p k) else f
theorem lk_own {p : Plot} (hp : p.Ok) (x : Str) : ∀ (o : List Nat) (f : List Str), (∀ y ∈ f, y ∈ p.owns) ∧ f.Nodup → (∀ y ∈ o.foldl (lkStep p x) f, y ∈ p.owns) ∧ (o.foldl (lkStep p x) f).Nodup
  | [], f, h => h
  | k :: o, f, h => lk_own hp x o _ (by
    unfold lkStep
    split
    · exact own_add h (rowK_own hp).1
    · exact h)
abbrev lA (C : Addr) : WS := wSeq (wFor (wName 4) (gvName 8) (wIfS (wB (wOp (gIn false) (wName 2) (wOp gIx (wFld C "rows" (wName 0)) (wName 8)))) (wExpr (wCallM 7 1 tAdd (wCons (wOp gIx (wFld C "rows_seen" (wName 0)) (wName 8)) wNil))) wNext)) (wSeq (wExpr (wCallM 7 1 tAdd (wCons (wName 5) wNil))) (wRet (wName 7)))
theorem ok_looks_along (T : Top K mg) : FnOk P w K mg base (L2.CX P w) 2 T.a_looks_along T.d_looks_along ["layout", "base", "name"] (spV K 3 (tLooks T.C_L)) := by
  refine fn_pure T.F_looks_along sc_looks_along rfl fun c A o s H E hr => ?_
  have nd := sc_looks_along.nd
  have hu5 : (A.deeper (envOfC "looks_along" (defScope s_looks_along) s.heap.objs.size T.a_looks_along c)).units + 65 < cLine := by have := hr.un; omega
  refine ⟨_, _, (svs_cons (sv_asg (ev_name 1) (gv_seq rfl (gvs_cons (gv_name 3 nd) (gvs_cons (gv_name 4 nd) (gvs_cons (gv_name 5 nd) (gvs_cons (gv_name 6 nd) gvs_nil))))))
      (svs_cons (sv_if (et_in hu5 (ev_name 2) (ev_fld T.c_L T.n_L_first (ev_name 0))) (svs_one (sv_ret (en_list T.b_list (ea_cons (ev_name 5) ea_nil)).ev)) svs_nil)
      (svs_cons (sv_setN 7 nd (en_lst ea_nil))
      (svs_cons (sv_if (et_notIn hu5 (ev_name 2) (ev_name 6)) (svs_one (sv_expr (ev_callM 7 (ok_add_new T) (hr.mono (by decide)) T.m_add_new T.F_add_new.kp T.B_add_new (ea_cons (ev_name 5) ea_nil)))) svs_nil)
      (svs_cons (sv_for (ev_name 4) (gv_name 8 nd) (svs_one (sv_if (et_in hu5 (ev_name 2) (ev_ix (ev_fld T.c_L T.n_L_rows (ev_name 0)) (ev_name 8))) (svs_one (sv_expr (ev_callM 7 (ok_add_new T) (hr.mono (by decide)) T.m_add_new T.F_add_new.kp T.B_add_new (ea_cons (ev_ix (ev_fld T.c_L T.n_L_rows_seen (ev_name 0)) (ev_name 8)) ea_nil)))) svs_nil)) PassesOwn.never rfl)
      (svs_cons (sv_expr (ev_callM 7 (ok_add_new T) (hr.mono (by decide)) T.m_add_new T.F_add_new.kp T.B_add_new (ea_cons (ev_name 5) ea_nil)))
      (svs_one (sv_ret (ev_name 7))))))))), fun ds P' hl hT => ?_⟩
  obtain ⟨p, b, x, hp, hb, hx, rfl, q⟩ := hT
  have fo := firstL_own hp
  have hpo := pub_own hp hb
  have okP := (hb.names hp).1
  have plen := hb.publen hp
  simp only [Bs.d]
  walk_at "tr"
  refine ⟨rfl, ?_⟩
  refine Tr.Later.now ?_
  walk_at "tr"
  refine ⟨layFs p, _, rfl, lk_first p, false, (firstL p).map .str, rfl, shaped_str hx, shaped_list fun y hy => okOwn hp (fo.1 y hy), ?_⟩
  rw [any_texts]
  simp only [Bool.false_eq_true, if_false]
  unfold looksOf at q
  by_cases e : x ∈ firstL p
  · rw [if_pos e] at q
    rw [if_pos (by simpa using e)]
    refine Tr.Later.now ?_
    unfold textsT
    walk_at "tr"
    exact q
  · rw [if_neg e] at q
    rw [if_neg (by simpa using e)]
    refine Tr.Later.now ?_
    walk_at "tr"
    refine Tr.Later.now ?_
    walk_at "tr"
    refine ⟨by rw [sizeLine_eq]; omega, ?_⟩
    refine Tr.Later.now ?_
    unfold textsT
    walk_at "tr"
    refine ⟨true, b.deep.map .str, rfl, shaped_str hx, shaped_tuple (hb.names hp).2, ?_⟩
    rw [any_texts]
    simp only [if_true]
    have tail : ∀ f0 : List Str, ((∀ y ∈ f0, y ∈ p.owns) ∧ f0.Nodup) → P' (textsD (addNew (b.order.foldl (lkStep p x) f0) b.pub)) → Tr.Later (lA T.C_L)
        [.val (layT T.C_L p), .val (.tuple [natsT b.counts, natsT b.order, .tuple (b.pub.map .str), .tuple (b.deep.map .str)]), .val (.str x), .val (natsT b.counts), .val (natsT b.order), .val (.tuple (b.pub.map .str)), .val (.tuple (b.deep.map .str)), .own false (f0.map .str), .un]
        { nx := fun _ => P' .none, rt := fun d _ => P' d } := fun f0 hf0 h => by
      refine Tr.Later.now ?_
      walk_at "tr"
      show ∃ tupS : Bool, _
      refine ⟨true, ?_⟩
      walk_at "tr"
      refine ⟨b.order.map intT, rfl, fun k ρ => ∃ t, ρ = [.val (layT T.C_L p), .val (.tuple [natsT b.counts, natsT b.order, .tuple (b.pub.map .str), .tuple (b.deep.map .str)]), .val (.str x), .val (natsT b.counts), .val (natsT b.order), .val (.tuple (b.pub.map .str)), .val (.tuple (b.deep.map .str)), .own false (((b.order.take k).foldl (lkStep p x) f0).map .str), t], ⟨_, rfl⟩, fun k z ρ hz hI => ?_, fun ρ hI => ?_⟩
      · obtain ⟨t, rfl⟩ := hI
        obtain ⟨j, rfl, hj⟩ : ∃ j : Nat, z = intT j ∧ b.order[k]? = some j := by
          rw [List.getElem?_map] at hz
          cases e : b.order[k]? with
          | none => rw [e] at hz; cases hz
          | some j => rw [e] at hz; exact ⟨j, (Option.some.inj hz).symm, rfl⟩
        have hjl := hb.ol j (List.mem_of_getElem? hj)
        have hk := rowK_own hp (k := j)
        have cur := lk_own hp x (b.order.take k) f0 hf0
        have clen := own_len hp cur
        walk_at "tr"
        refine Tr.Later.now ?_
        walk_at "tr"
        refine ⟨layFs p, _, rfl, lk_rows p, ?_⟩
        unfold rowsT intT
        walk_at "tr"
        rw [atI_nat, textsD_at (rowsL_at hjl)]
        refine ⟨false, (rowK p j).map .str, rfl, shaped_str hx, shaped_list fun y hy => okOwn hp (hk.1 y hy), ?_⟩
        rw [any_texts, take_one hj, List.foldl_append]
        simp only [Bool.false_eq_true, if_false, List.foldl_cons, List.foldl_nil]
        by_cases e2 : x ∈ rowK p j
        · rw [if_pos (by simpa using e2)]
          refine Tr.Later.now ?_
          walk_at "tr"
          refine ⟨layFs p, _, rfl, lk_rseen p, ?_⟩
          unfold rowsT
          walk_at "tr"
          rw [atI_nat, textsD_at (rowsL_at hjl)]
          refine ⟨false, _, rowK p j, rfl, rfl, fun y hy => okOwn hp (cur.1 y hy), fun y hy => okOwn hp (hk.1 y hy), by omega, .val (.int (j : Int)), ?_⟩
          rw [show lkStep p x ((b.order.take k).foldl (lkStep p x) f0) j = addNew ((b.order.take k).foldl (lkStep p x) f0) (rowK p j) from if_pos e2]
        · rw [if_neg (by simpa using e2)]
          refine Tr.Later.now ?_
          walk_at "tr"
          refine ⟨.val (.int (j : Int)), ?_⟩
          rw [show lkStep p x ((b.order.take k).foldl (lkStep p x) f0) j = (b.order.take k).foldl (lkStep p x) f0 from if_neg e2]
      · obtain ⟨t, rfl⟩ := hI
        have cur := lk_own hp x b.order f0 hf0
        have clen := own_len hp cur
        rw [List.length_map, List.take_length]
        refine Tr.Later.now ?_
        walk_at "tr"
        refine ⟨true, _, b.pub, rfl, rfl, fun y hy => okOwn hp (cur.1 y hy), okP, by omega, ?_⟩
        refine Tr.Later.now ?_
        walk_at "tr"
        exact h
    by_cases e2 : x ∈ b.deep
    · rw [if_pos e2] at q
      rw [if_neg (by simpa using e2)]
      refine Tr.Later.now ?_
      exact tail [] ⟨fun y h => (nomatch h), List.Pairwise.nil⟩ q
    · rw [if_neg e2] at q
      rw [if_pos (by simpa using e2)]
      refine Tr.Later.now ?_
      walk_at "tr"
      refine ⟨true, [], b.pub, rfl, rfl, (fun y h => (nomatch h)), okP, by simp; omega, ?_⟩
      exact tail (addNew [] b.pub) (own_add ⟨fun y h => (nomatch h), List.Pairwise.nil⟩ hpo) q
end
end K12
set_option Elab.async false
set_option linter.all false
set_option maxRecDepth 100000
set_option maxHeartbeats 4000000
namespace K12
open PySem PySem.Spec PyProof.Rows L2 Tr
variable [Tabbed]
local macro_rules | `(tactic| walk_at "tr") => `(tactic| simp only [wOwn, wRet, wRetN, wExpr, wAsg, wSet, wSetN, wPar, wParV0, wParN0, wAugI, wgNil, wgCons, wCall, wCall0, wCallM, wCallN, wIxO, wFn, wFn1, wFnN, wTuple1, wAppend, wPopAt, wSetO, wNeO, wIsN, wTup, wLst, wYes, wRep, wSliceL, wSliceT, wRev, wRevT, wIsLT, wIs1, wNeg, wChainI, wMinT, wCallRev, wTru, wInD, wSortedD, wSortedK, wNotN, wAugT, wSetDc, wDput, wNameD, wSlotGet, wSlotPut, wSetLeft, wItems, wFld, wFldO, wSetF, wSetFD, wMethO, wCallO, wMake, wStill, wParB, wSetB, wStar, wSortLam, insAt, objAt, ownAt, asInt, asNat, asList, asTuple, someOf, seqItems, at0, at1, at2, at3, wIf, wB, wOp, wOpN, wName, wLook, wN, wC, wAnd, wOr, wNot, wAndV, wOrV, wNotV, wSeq, wNext, wIfS, wNil, wCons, wPart, wgSeq, gvName, wTurn, wipeE, gI, gI0, gEq, gNe, gLen, gIx, gInt, gAbs, gMin2, gList, gTup1, gMulS, gAll, gCatL, gCatT, gRepT, gRepP, Tr.isNone, Tr.isLT, Tr.top, Tr.isTup, Tr.isInt, Tr.isBool, startE, startM, startO, putT, List.map_cons, List.map_nil, List.length_cons, List.length_nil, List.cons_append, List.nil_append, List.getElem?_cons_zero, List.getElem?_cons_succ, List.set_cons_zero, List.set_cons_succ, List.replicate, List.length_map, if_true, if_false, Bool.false_eq_true, reduceIte, List.mem_cons, List.not_mem_nil, or_false, forall_eq, forall_eq_or_imp, false_implies, implies_true, true_and, and_true, Bool.not_true, Bool.not_false, Option.bind_some, Option.map_some, Option.map_none, Int.reduceLT, Int.reduceLE, Int.reduceToNat, Int.toNat_zero, Int.toNat_one, Int.toNat_natCast, Nat.reduceAdd, Nat.reduceSub, Nat.reduceLT, decide_true, List.set, Int.add_zero, Int.zero_add])
section
variable {P : Program} {w : World} {K : PySem.W.Frag} {mg : Str → Option Value} {base : Heap}
/-! ### what is told along a row -/
def givesN (p : Plot) (u : (Str × Str) × Bool) (x : Str) : Option Str := match p.libs.find? (fun l => decide (l.own = x)) with
  | some l => givesOf l.defs u.1.1 u.1.2
  | none => none
def bound (x v : Str) : PyData := .tuple [.str "bound", .str x, .str v]
def ansOf (p : Plot) (along : List Str) (u : (Str × Str) × Bool) : PyData := match along.findSome? (fun x => (givesN p u x).map (bound x)) with
  | some d => d
  | none => unb u
theorem gives_lib {p : Plot} {u : (Str × Str) × Bool} {x : Str} (h : x ∈ p.owns) : ∃ (l : Lib) (i : Nat), p.libs[i]? = some l ∧ l.own = x ∧ givesN p u x = givesOf l.defs u.1.1 u.1.2 := by
  unfold Plot.owns at h
  obtain ⟨l0, hl0, e0⟩ := List.mem_map.mp h
  unfold givesN
  cases e : p.libs.find? (fun l => decide (l.own = x)) with
  | none =>
    have := List.find?_eq_none.mp e l0 hl0
    simp [e0] at this
  | some l =>
    have h1 := List.find?_some e
    obtain ⟨i, hi⟩ := List.mem_iff_getElem?.mp (List.mem_of_find?_eq_some e)
    exact ⟨l, i, hi, by simpa using h1, rfl⟩
def tAlong : TSp := fun ds Q => ∃ (p : Plot) (along : List Str) (u : (Str × Str) × Bool), p.Ok ∧ (∀ x ∈ along, x ∈ p.owns) ∧ along.length ≤ 100 ∧ (okS u.1.1 ∧ okS u.1.2) ∧ ds = [plotT true p, textsD along, useT true u] ∧ Q (ansOf p along u)
theorem ok_answer_along (T : Top K mg) (TB : LamX.TabB base mg T.cS T.PS) : FnOk P w K mg base (L2.CX P w) 4 T.a_answer_along T.d_answer_along ["program", "along", "use"] (spV K 3 tAlong) := by
  refine fn_pure T.F_answer_along sc_answer_along rfl fun c A o s H E hr => ?_
  have nd := sc_answer_along.nd
  refine ⟨_, _, (svs_cons (sv_for (ev_name 1) (gv_name 3 nd) (svs_cons (sv_set 4 nd (ev_call (ok_gives T TB) (hr.mono (by decide)) T.m_gives T.F_gives.kp T.B_gives (ea_cons (ev_name 0) (ea_cons (ev_name 3) (ea_cons (ev_name 2) ea_nil)))))
      (svs_one (sv_if (et_isNotN (ev_name 4)) (svs_one (sv_ret (ev_tup (ea_cons ev_str (ea_cons (ev_name 3) (ea_cons (ev_name 4) ea_nil)))))) svs_nil))) PassesOwn.never rfl)
      (svs_one (sv_ret (ev_call (ok_unbound_answer T) (hr.mono (by decide)) T.m_unbound_answer T.F_unbound_answer.kp T.B_unbound_answer (ea_cons (ev_name 2) ea_nil))))), fun ds P' hl hT => ?_⟩
  obtain ⟨p, along, u, hp, ho, hlen, hu, rfl, q⟩ := hT
  simp only [textsD]
  walk_at "tr"
  show ∃ tupS : Bool, _
  refine ⟨false, ?_⟩
  walk_at "tr"
  refine ⟨along.map .str, rfl, fun k ρ => (along.take k).findSome? (fun x => (givesN p u x).map (bound x)) = none ∧ ∃ t3 t4, ρ = [.val (plotT true p), .val (.list (along.map .str)), .val (useT true u), t3, t4], ⟨rfl, _, _, rfl⟩, fun k z ρ hz hI => ?_, fun ρ hI => ?_⟩
  · obtain ⟨hno, t3, t4, rfl⟩ := hI
    obtain ⟨x, rfl, hx⟩ : ∃ x : Str, z = .str x ∧ along[k]? = some x := by
      rw [List.getElem?_map] at hz
      cases e : along[k]? with
      | none => rw [e] at hz; cases hz
      | some j => rw [e] at hz; exact ⟨j, (Option.some.inj hz).symm, rfl⟩
    obtain ⟨l, i, hi, rfl, hg⟩ := gives_lib (u := u) (ho x (List.mem_of_getElem? hx))
    walk_at "tr"
    refine Tr.Later.now ?_
    walk_at "tr"
    refine ⟨true, true, p, l, i, u.1.1, u.1.2, u.2, fine_of hp, hi, hu.1, hu.2, rfl, ?_⟩
    rw [← hg]
    refine Tr.Later.now ?_
    have hstep : (along.take (k + 1)).findSome? (fun x => (givesN p u x).map (bound x)) = (givesN p u l.own).map (bound l.own) := by
      rw [take_one hx, List.findSome?_append, hno]
      simp
    cases e : givesN p u l.own with
    | none =>
      unfold optT
      walk_at "tr"
      refine Tr.Later.now ?_
      walk_at "tr"
      exact ⟨by rw [hstep, e]; rfl, _, _, rfl⟩
    | some v =>
      unfold optT
      walk_at "tr"
      refine Tr.Later.now ?_
      walk_at "tr"
      refine ⟨by rw [sizeLine_eq]; omega, ?_⟩
      have hall : along.findSome? (fun x => (givesN p u x).map (bound x)) = some (bound l.own v) := by
        have := List.findSome?_append (f := fun x => (givesN p u x).map (bound x)) (xs := along.take (k + 1)) (ys := along.drop (k + 1))
        rw [List.take_append_drop] at this
        rw [this, hstep, e]
        rfl
      unfold ansOf at q
      rw [hall] at q
      exact q
  · obtain ⟨hno, t3, t4, rfl⟩ := hI
    rw [List.length_map, List.take_length] at hno
    refine Tr.Later.now ?_
    walk_at "tr"
    refine ⟨u, rfl, ?_⟩
    unfold ansOf at q
    rw [hno] at q
    exact q
/-- [e for .. in ..], item by item -/
theorem lc_each {ds es : List PyData} {b : Bool} {wi : W1} {wg : WG} {we : W1} {ws : List Nat} {ρ : En} {P : List PyData → En → Prop} (hwi : ∀ P', P' (seqOf b ds) ρ → wi ρ P') (hl : ds.length = es.length) (hs : es.length ≤ 1000) (hun : ∀ v ∈ ws, ρ[v]? = some .un)
    (step : ∀ (k : Nat) (x y : PyData), ds[k]? = some x → es[k]? = some y → ∀ P' : PyData → En → Prop, (∀ ρ5, wipeE ρ5 ws = ρ → P' y ρ5) → wg x ρ fun ρ3 => we ρ3 P') (q : P es ρ) : wLc wi wg wYes we ws ρ P := by
  refine ⟨b, hwi _ ⟨ds, rfl, fun k acc ρ' => acc = es.take k ∧ ρ' = ρ, ⟨rfl, rfl⟩, fun k x acc ρ' hx hI => ?_, fun acc ρ' hI => ?_⟩⟩
  · obtain ⟨rfl, rfl⟩ := hI
    have hk : k < es.length := by
      have := (List.getElem?_eq_some_iff.mp hx).1
      omega
    have hy : es[k]? = some es[k] := List.getElem?_eq_getElem hk
    refine ⟨hun, ?_⟩
    show wg x ρ' fun ρ3 => wYes ρ3 _
    simp only [wYes, if_true]
    refine step k x _ hx hy _ fun ρ5 e => ⟨by rw [List.length_take, sizeLine_eq]; omega, (take_one hy).symm, e⟩
  · obtain ⟨rfl, rfl⟩ := hI
    rw [hl, List.take_length]
    exact q
theorem lcR_each {n : Nat} {es : List PyData} {wi : W1} {wg : WG} {we : W1} {ws : List Nat} {ρ : En} {P : List PyData → En → Prop} (hwi : ∀ P', P' (.int (n : Int)) ρ → wi ρ P') (hl : n = es.length) (hs : es.length ≤ 1000) (hun : ∀ v ∈ ws, ρ[v]? = some .un)
    (step : ∀ (k : Nat) (y : PyData), k < n → es[k]? = some y → ∀ P' : PyData → En → Prop, (∀ ρ5, wipeE ρ5 ws = ρ → P' y ρ5) → wg (.int (k : Int)) ρ fun ρ3 => we ρ3 P') (q : P es ρ) : wLcR wi wg wYes we ws ρ P := by
  refine hwi _ ⟨by omega, by omega, fun k acc ρ' => acc = es.take k ∧ ρ' = ρ, ⟨rfl, rfl⟩, fun k acc ρ' hx hI => ?_, fun acc ρ' hI => ?_⟩
  · obtain ⟨rfl, rfl⟩ := hI
    have hk : k < es.length := by omega
    have hy : es[k]? = some es[k] := List.getElem?_eq_getElem hk
    refine ⟨hun, ?_⟩
    show wg _ ρ' fun ρ3 => wYes ρ3 _
    simp only [wYes, if_true]
    refine step k _ (by omega) hy _ fun ρ5 e => ⟨by rw [List.length_take, sizeLine_eq]; omega, (take_one hy).symm, e⟩
  · obtain ⟨rfl, rfl⟩ := hI
    rw [Int.toNat_natCast, hl, List.take_length]
    exact q
/-! ### Layout(program) -/
def tLinit (C : Addr) : TSo := fun o ds Q => ∃ (x : Addr) (p : Plot), p.Ok ∧ o = .ins x C [] 0 none ∧ ds = [plotT true p, .none, .none] ∧ Q .none (.ins x C ((layFs p).map fun e => (e.1, .val e.2)) 0 none)
theorem seq_doors (b : Bool) (p : Plot) {Q : PyData → Prop} (h : Q (seqOf b (p.doors.map (duoT b)))) : gIx (plotT b p) (.int 2) Q := by
  cases b <;> exact h
theorem inL_get {p : Plot} {m : Str} {k : Nat} {d : Str × Str} (hd : p.doors[k]? = some d) : ((inL p m).map textsD)[k]? = some (textsD (if d.2 = m then rowOf p [d.1] else [])) := by
  unfold inL
  rw [List.getElem?_map, List.getElem?_map, hd]
  rfl
theorem lne01 : (Str.ofString "first" = Str.ofString "rows") = False := eq_false (by decide +kernel)
theorem lne10 : (Str.ofString "rows" = Str.ofString "first") = False := eq_false (by decide +kernel)
theorem lne02 : (Str.ofString "first" = Str.ofString "first_seen") = False := eq_false (by decide +kernel)
theorem lne20 : (Str.ofString "first_seen" = Str.ofString "first") = False := eq_false (by decide +kernel)
theorem lne03 : (Str.ofString "first" = Str.ofString "rows_seen") = False := eq_false (by decide +kernel)
theorem lne30 : (Str.ofString "rows_seen" = Str.ofString "first") = False := eq_false (by decide +kernel)
theorem lne04 : (Str.ofString "first" = Str.ofString "into_public") = False := eq_false (by decide +kernel)
theorem lne40 : (Str.ofString "into_public" = Str.ofString "first") = False := eq_false (by decide +kernel)
theorem lne05 : (Str.ofString "first" = Str.ofString "into_deep") = False := eq_false (by decide +kernel)
theorem lne50 : (Str.ofString "into_deep" = Str.ofString "first") = False := eq_false (by decide +kernel)
theorem lne12 : (Str.ofString "rows" = Str.ofString "first_seen") = False := eq_false (by decide +kernel)
theorem lne21 : (Str.ofString "first_seen" = Str.ofString "rows") = False := eq_false (by decide +kernel)
theorem lne13 : (Str.ofString "rows" = Str.ofString "rows_seen") = False := eq_false (by decide +kernel)
theorem lne31 : (Str.ofString "rows_seen" = Str.ofString "rows") = False := eq_false (by decide +kernel)
theorem lne14 : (Str.ofString "rows" = Str.ofString "into_public") = False := eq_false (by decide +kernel)
theorem lne41 : (Str.ofString "into_public" = Str.ofString "rows") = False := eq_false (by decide +kernel)
theorem lne15 : (Str.ofString "rows" = Str.ofString "into_deep") = False := eq_false (by decide +kernel)
theorem lne51 : (Str.ofString "into_deep" = Str.ofString "rows") = False := eq_false (by decide +kernel)
theorem lne23 : (Str.ofString "first_seen" = Str.ofString "rows_seen") = False := eq_false (by decide +kernel)
theorem lne32 : (Str.ofString "rows_seen" = Str.ofString "first_seen") = False := eq_false (by decide +kernel)
theorem lne24 : (Str.ofString "first_seen" = Str.ofString "into_public") = False := eq_false (by decide +kernel)
theorem lne42 : (Str.ofString "into_public" = Str.ofString "first_seen") = False := eq_false (by decide +kernel)
theorem lne25 : (Str.ofString "first_seen" = Str.ofString "into_deep") = False := eq_false (by decide +kernel)
theorem lne52 : (Str.ofString "into_deep" = Str.ofString "first_seen") = False := eq_false (by decide +kernel)
theorem lne34 : (Str.ofString "rows_seen" = Str.ofString "into_public") = False := eq_false (by decide +kernel)
theorem lne43 : (Str.ofString "into_public" = Str.ofString "rows_seen") = False := eq_false (by decide +kernel)
theorem lne35 : (Str.ofString "rows_seen" = Str.ofString "into_deep") = False := eq_false (by decide +kernel)
theorem lne53 : (Str.ofString "into_deep" = Str.ofString "rows_seen") = False := eq_false (by decide +kernel)
theorem lne45 : (Str.ofString "into_public" = Str.ofString "into_deep") = False := eq_false (by decide +kernel)
theorem lne54 : (Str.ofString "into_deep" = Str.ofString "into_public") = False := eq_false (by decide +kernel)
theorem ok_L_init (T : Top K mg) : FnOk P w K mg base (L2.CX P w) 4 T.a_L_init T.d_L_init ["self", "program", "public", "deep"] (spO K 3 (tLinit T.C_L)) := by
  refine fnOD T.F_L_init sc_L_init rfl fun c A o s H E hr => ?_
  have nd := sc_L_init.nd
  have hu := hr.units
  refine ⟨_, _, (svs_cons (sv_set 4 nd (ev_ix (ev_name 1) ev_int))
      (svs_cons (sv_setF 0 T.c_L T.n_L_first (en_call (ok_first_row T) (hr.mono (by decide)) T.m_first_row T.F_first_row.kp T.B_first_row (ea_cons (ev_name 1) ea_nil)).ev)
      (svs_cons (sv_setF 0 T.c_L T.n_L_rows (en_lc (g := gSeq K 2 _) (wg := wgSeq 2 _) (te := tCall (spN K 2 tRow) [] E0 (tCons (tVar 1) (tCons (tTup (tCons (tVar 5) tNil)) tNil))) [("name", 5), ("_", 6)] rfl nd (ev_name 4) (blkOk_by (N := N_L_init) (sc := defScope s_L_init) (by decide +kernel)) (fun _ _ _ _ _ => (gv_seq (n := 2) rfl (gvs_cons (gv_name 5 nd) (gvs_cons (gv_name 6 nd) gvs_nil)))) (fun _ _ _ _ _ => ets_nil) (fun _ _ _ _ _ => (en_call (ok_row T) (hr.mono (by decide)) T.m_row T.F_row.kp T.B_row (ea_cons (ev_name 1) (ea_cons (ev_tup (ea_cons (ev_name 5) ea_nil)) ea_nil))).ev) (by decide)).ev)
      (svs_cons (sv_setF 0 T.c_L T.n_L_first_seen (ev_call (ok_among T) (hr.mono (by decide)) T.m_among T.F_among.kp T.B_among (ea_cons (ev_fldO 0 T.c_L T.n_L_first) (ea_cons (ev_name 2) ea_nil))))
      (svs_cons (sv_setF 0 T.c_L T.n_L_rows_seen (en_lc (te := tCall (spV K 2 tAmong) [] E0 _) [("names", 7)] rfl nd (ev_fldO 0 T.c_L T.n_L_rows) (blkOk_by (N := N_L_init) (sc := defScope s_L_init) (by decide +kernel)) (fun _ _ _ _ _ => (gv_name 7 nd)) (fun _ _ _ _ _ => ets_nil) (fun _ _ _ _ _ => (ev_call (ok_among T) (hr.mono (by decide)) T.m_among T.F_among.kp T.B_among (ea_cons (ev_name 7) (ea_cons (ev_name 2) ea_nil)))) (by decide)).ev)
      (svs_cons (sv_setF 0 T.c_L T.n_L_into_public (en_lcR (te := tIf (tTest (tOp (rEqD K) (tOp (rIx K) (tOp (rIx K) (tVar 4) (tVar 8)) (tC (.int 1))) (tC (.str "global")))) (tCall (spV K 2 tAmong) [] E0 (tCons (tOp (rIx K) (tFld K (tVar 0) "rows") (tVar 8)) (tCons (tVar 2) tNil))) (tLst tNil)) [ ("k", 8)] T.b_range rfl nd (ev_len T.b_len (er_name 4)) (blkOk_by (N := N_L_init) (sc := defScope s_L_init) (by decide +kernel)) (fun _ _ _ _ _ => (gv_name 8 nd)) (fun _ _ _ _ _ => ets_nil) (fun _ _ _ _ _ => (ev_if (et_eq hu (ev_ix (ev_ix (ev_name 4) (ev_name 8)) ev_int) ev_str) (ev_call (ok_among T) (hr.mono (by decide)) T.m_among T.F_among.kp T.B_among (ea_cons (ev_ix (ev_fldO 0 T.c_L T.n_L_rows) (ev_name 8)) (ea_cons (ev_name 2) ea_nil))) (en_lst ea_nil).ev)) (by decide)).ev)
      (svs_one (sv_setF 0 T.c_L T.n_L_into_deep (en_lcR (te := tIf (tTest (tOp (rEqD K) (tOp (rIx K) (tOp (rIx K) (tVar 4) (tVar 8)) (tC (.int 1))) (tC (.str "deep")))) (tCall (spV K 2 tAmong) [] E0 (tCons (tOp (rIx K) (tFld K (tVar 0) "rows") (tVar 8)) (tCons (tVar 3) tNil))) (tLst tNil)) [ ("k", 8)] T.b_range rfl nd (ev_len T.b_len (er_name 4)) (blkOk_by (N := N_L_init) (sc := defScope s_L_init) (by decide +kernel)) (fun _ _ _ _ _ => (gv_name 8 nd)) (fun _ _ _ _ _ => ets_nil) (fun _ _ _ _ _ => (ev_if (et_eq hu (ev_ix (ev_ix (ev_name 4) (ev_name 8)) ev_int) ev_str) (ev_call (ok_among T) (hr.mono (by decide)) T.m_among T.F_among.kp T.B_among (ea_cons (ev_ix (ev_fldO 0 T.c_L T.n_L_rows) (ev_name 8)) (ea_cons (ev_name 3) ea_nil))) (en_lst ea_nil).ev)) (by decide)).ev)))))))), fun ob ds P' hl hT => ?_⟩
  obtain ⟨x, p, hp, rfl, rfl, q⟩ := hT
  simp only [plotT, seqOf, if_true]
  walk_at "tr"
  refine Tr.Later.now ?_
  walk_at "tr"
  refine ⟨true, p, hp, rfl, ?_⟩
  have dl : p.doors.length ≤ 10 := hp.doors.2
  have rl := rowsL_len p
  have fo := firstL_own hp
  have f10 := fo.2.2
  show Tr.Later _ _ _
  refine Tr.Later.now ?_
  walk_at "tr"
  refine lc_each (b := true) (ds := p.doors.map (duoT true)) (es := (rowsL p).map textsD) (fun P' h => by walk_at "tr"; exact h) (by simp [rl]) (by simp [rl]; omega) (fun v hv => by simp only [List.mem_cons, List.not_mem_nil, or_false] at hv; rcases hv with rfl | rfl <;> rfl) (fun k x y hx hy P2 h2 => ?_) ?_
  · obtain ⟨d, rfl, hd⟩ : ∃ d, x = duoT true d ∧ p.doors[k]? = some d := by
      rw [List.getElem?_map] at hx
      cases e : p.doors[k]? with
      | none => rw [e] at hx; cases hx
      | some d => rw [e] at hx; exact ⟨d, (Option.some.inj hx).symm, rfl⟩
    have ey : y = textsD (rowOf p [d.1]) := by
      unfold rowsL at hy
      rw [List.map_map, List.getElem?_map, hd] at hy
      exact (Option.some.inj hy).symm
    subst ey
    refine ⟨rfl, ?_⟩
    walk_at "tr"
    refine ⟨by rw [sizeLine_eq]; omega, true, true, p, [d.1], hp, fun z hz => ?_, by simp, rfl, h2 _ rfl⟩
    rw [List.mem_singleton.mp hz]
    exact hp.gate d (List.mem_of_getElem? hd)
  walk_at "tr"
  try simp only [lne01, lne10, lne02, lne20, lne03, lne30, lne04, lne40, lne05, lne50, lne12, lne21, lne13, lne31, lne14, lne41, lne15, lne51, lne23, lne32, lne24, lne42, lne25, lne52, lne34, lne43, lne35, lne53, lne45, lne54, if_false]
  refine Tr.Later.now ?_
  walk_at "tr"
  try simp only [lne01, lne10, lne02, lne20, lne03, lne30, lne04, lne40, lne05, lne50, lne12, lne21, lne13, lne31, lne14, lne41, lne15, lne51, lne23, lne32, lne24, lne42, lne25, lne52, lne34, lne43, lne35, lne53, lne45, lne54, if_false]
  refine ⟨_, look_eq, rowOf p (firstOf p), rfl, by show (firstL p).length ≤ 1000; omega, ?_⟩
  refine Tr.Later.now ?_
  walk_at "tr"
  try simp only [lne01, lne10, lne02, lne20, lne03, lne30, lne04, lne40, lne05, lne50, lne12, lne21, lne13, lne31, lne14, lne41, lne15, lne51, lne23, lne32, lne24, lne42, lne25, lne52, lne34, lne43, lne35, lne53, lne45, lne54, if_false]
  refine lc_each (b := false) (ds := (rowsL p).map textsD) (es := (rowsL p).map textsD) (fun P' h => ?_) rfl (by simp [rl]; omega) (fun v hv => by simp only [List.mem_cons, List.not_mem_nil, or_false] at hv; rcases hv with rfl; rfl) (fun k x y hx hy P2 h2 => ?_) ?_
  · walk_at "tr"
    exact ⟨_, (look_ne (by decide +kernel)).trans look_eq, h⟩
  · walk_at "tr"
    rw [hx] at hy
    cases hy
    obtain ⟨r, hr0, rfl⟩ := List.mem_map.mp (List.mem_of_getElem? hx)
    obtain ⟨d, hd, rfl⟩ := List.mem_map.mp hr0
    exact ⟨_, rfl, (Nat.le_trans (row_mem hp (xs := [d.1]) fun z hz => by rw [List.mem_singleton.mp hz]; exact hp.gate d hd).2 (by omega)), h2 _ rfl⟩
  walk_at "tr"
  try simp only [lne01, lne10, lne02, lne20, lne03, lne30, lne04, lne40, lne05, lne50, lne12, lne21, lne13, lne31, lne14, lne41, lne15, lne51, lne23, lne32, lne24, lne42, lne25, lne52, lne34, lne43, lne35, lne53, lne45, lne54, if_false]
  refine Tr.Later.now ?_
  walk_at "tr"
  refine lcR_each (n := p.doors.length) (es := (inL p "global").map textsD) (fun P' h => ?_) (by simp [inL]) (by simp [inL]; omega) (fun v hv => by simp only [List.mem_cons, List.not_mem_nil, or_false] at hv; rcases hv with rfl; rfl) (fun k y hk hy P2 h2 => ?_) ?_
  · walk_at "tr"
    exact h
  · obtain ⟨d, hd⟩ : ∃ d, p.doors[k]? = some d := ⟨_, List.getElem?_eq_getElem hk⟩
    have hm := List.mem_of_getElem? hd
    rw [inL_get hd] at hy
    cases hy
    walk_at "tr"
    rw [atI_nat, List.getElem?_map, hd]
    simp only [duoT, Option.map_some, seqOf, if_true]
    walk_at "tr"
    refine ⟨shaped_str (hp.doors.1 d hm).2, shaped_str (okS_word (by decide +kernel)), ?_⟩
    rw [eqv_str]
    by_cases e : d.2 = ("global" : Str)
    · rw [if_pos (by simpa using e)]
      refine ⟨_, (look_ne (by decide +kernel)).trans look_eq, ?_⟩
      simp only [atI_nat]
      rw [textsD_at (rowsL_at hk)]
      refine ⟨rowK p k, rfl, Nat.le_trans (rowK_own hp).2.2 (by omega), ?_⟩
      have er : rowK p k = rowOf p [d.1] := by
        have h1 := rowsL_at hk
        unfold rowsL at h1
        rw [List.getElem?_map, hd] at h1
        exact (Option.some.inj h1).symm
      rw [if_pos e] at h2
      rw [er]
      exact h2 _ rfl
    · rw [if_neg (by simpa using e)]
      rw [if_neg e] at h2
      exact ⟨by rw [sizeLine_eq]; omega, h2 _ rfl⟩
  walk_at "tr"
  try simp only [lne01, lne10, lne02, lne20, lne03, lne30, lne04, lne40, lne05, lne50, lne12, lne21, lne13, lne31, lne14, lne41, lne15, lne51, lne23, lne32, lne24, lne42, lne25, lne52, lne34, lne43, lne35, lne53, lne45, lne54, if_false]
  refine Tr.Later.now ?_
  walk_at "tr"
  refine lcR_each (n := p.doors.length) (es := (inL p "deep").map textsD) (fun P' h => ?_) (by simp [inL]) (by simp [inL]; omega) (fun v hv => by simp only [List.mem_cons, List.not_mem_nil, or_false] at hv; rcases hv with rfl; rfl) (fun k y hk hy P2 h2 => ?_) ?_
  · walk_at "tr"
    exact h
  · obtain ⟨d, hd⟩ : ∃ d, p.doors[k]? = some d := ⟨_, List.getElem?_eq_getElem hk⟩
    have hm := List.mem_of_getElem? hd
    rw [inL_get hd] at hy
    cases hy
    walk_at "tr"
    rw [atI_nat, List.getElem?_map, hd]
    simp only [duoT, Option.map_some, seqOf, if_true]
    walk_at "tr"
    refine ⟨shaped_str (hp.doors.1 d hm).2, shaped_str (okS_word (by decide +kernel)), ?_⟩
    rw [eqv_str]
    by_cases e : d.2 = ("deep" : Str)
    · rw [if_pos (by simpa using e)]
      refine ⟨_, (look_ne (by decide +kernel)).trans look_eq, ?_⟩
      simp only [atI_nat]
      rw [textsD_at (rowsL_at hk)]
      refine ⟨rowK p k, rfl, Nat.le_trans (rowK_own hp).2.2 (by omega), ?_⟩
      have er : rowK p k = rowOf p [d.1] := by
        have h1 := rowsL_at hk
        unfold rowsL at h1
        rw [List.getElem?_map, hd] at h1
        exact (Option.some.inj h1).symm
      rw [if_pos e] at h2
      rw [er]
      exact h2 _ rfl
    · rw [if_neg (by simpa using e)]
      rw [if_neg e] at h2
      exact ⟨by rw [sizeLine_eq]; omega, h2 _ rfl⟩
  walk_at "tr"
  simp only [lne01, lne10, lne02, lne20, lne03, lne30, lne04, lne40, lne05, lne50, lne12, lne21, lne13, lne31, lne14, lne41, lne15, lne51, lne23, lne32, lne24, lne42, lne25, lne52, lne34, lne43, lne35, lne53, lne45, lne54, if_false]
  exact ⟨rfl, trivial, q⟩
end
end K12
set_option Elab.async false
set_option linter.all false
set_option maxRecDepth 100000
set_option maxHeartbeats 4000000
namespace K12
open PySem PySem.Spec PyProof.Rows L2 Tr
variable [Tabbed]
local macro_rules | `(tactic| walk_at "tr") => `(tactic| simp only [wOwn, wRet, wRetN, wExpr, wAsg, wSet, wSetN, wPar, wParV0, wParN0, wAugI, wgNil, wgCons, wCall, wCall0, wCallM, wCallN, wIxO, wFn, wFn1, wFnN, wTuple1, wAppend, wPopAt, wSetO, wNeO, wIsN, wTup, wLst, wYes, wRep, wSliceL, wSliceT, wRev, wRevT, wIsLT, wIs1, wNeg, wChainI, wMinT, wCallRev, wTru, wInD, wSortedD, wSortedK, wNotN, wAugT, wSetDc, wDput, wNameD, wSlotGet, wSlotPut, wSetLeft, wItems, wFld, wFldO, wSetF, wSetFD, wMethO, wCallO, wMake, wStill, wParB, wSetB, wStar, wSortLam, insAt, objAt, ownAt, asInt, asNat, asList, asTuple, someOf, seqItems, at0, at1, at2, at3, wIf, wB, wOp, wOpN, wName, wLook, wN, wC, wAnd, wOr, wNot, wAndV, wOrV, wNotV, wSeq, wNext, wIfS, wNil, wCons, wPart, wgSeq, gvName, wTurn, wipeE, gI, gI0, gEq, gNe, gLen, gIx, gInt, gAbs, gMin2, gList, gTup1, gMulS, gAll, gCatL, gCatT, gRepT, gRepP, Tr.isNone, Tr.isLT, Tr.top, Tr.isTup, Tr.isInt, Tr.isBool, startE, startM, startO, putT, List.map_cons, List.map_nil, List.length_cons, List.length_nil, List.cons_append, List.nil_append, List.getElem?_cons_zero, List.getElem?_cons_succ, List.set_cons_zero, List.set_cons_succ, List.replicate, List.length_map, if_true, if_false, Bool.false_eq_true, reduceIte, List.mem_cons, List.not_mem_nil, or_false, forall_eq, forall_eq_or_imp, false_implies, implies_true, true_and, and_true, Bool.not_true, Bool.not_false, Option.bind_some, Option.map_some, Option.map_none, Int.reduceLT, Int.reduceLE, Int.reduceToNat, Int.toNat_zero, Int.toNat_one, Int.toNat_natCast, Nat.reduceAdd, Nat.reduceLT, decide_true, List.set, Int.add_zero, Int.zero_add])
section
variable {P : Program} {w : World} {K : PySem.W.Frag} {mg : Str → Option Value} {base : Heap}
/-! ### bases: what stands -/
theorem mem_row_there {p : Plot} {o : List Nat} {k : Nat} (h : k ∈ o) {x : Str} (hx : x ∈ rowK p k) : x ∈ thereOf p o := (there_mem o).mpr (.inr ⟨k, h, hx⟩)
theorem there_mono {p : Plot} {o o' : List Nat} (h : ∀ k ∈ o, k ∈ o') {x : Str} (hx : x ∈ thereOf p o) : x ∈ thereOf p o' := by
  rcases (there_mem o).mp hx with a | ⟨k, a, b⟩
  · exact (there_mem o').mpr (.inl a)
  · exact mem_row_there (h k a) b
theorem firstB_ok {p : Plot} (hp : p.Ok) : (firstB p).Ok p where
  cl := List.length_replicate
  cs := fun c h => by rw [List.eq_of_mem_replicate h]; omega
  ol := fun k h => nomatch h
  on := .nil
  pub := ⟨fun x h => (there_mem []).mpr (.inl h), (firstL_own hp).2.1⟩
  deep := ⟨fun x h => (nomatch h), .nil⟩
theorem filter_nil_eq (xs : List Str) : (xs.filter fun x => !decide (x ∈ ([] : List Str))) = xs := filter_none xs
theorem chg_none (b : Bs) (c o : List Nat) : chg b c o [] [] [] = ⟨c, o, b.pub, b.deep⟩ := by
  unfold chg
  rw [filter_none, filter_none, if_pos rfl]
  simp
theorem openB_in {p : Plot} {b : Bs} {k : Nat} (h : k ∈ b.order) : openB p b k = ⟨b.counts.set k (b.counts.getD k 0 + 1), b.order, b.pub, b.deep⟩ := by
  unfold openB openCh
  rw [if_pos h]
  exact chg_none _ _ _
theorem openB_out {p : Plot} {b : Bs} {k : Nat} (h : k ∉ b.order) : openB p b k = chg b (b.counts.set k (b.counts.getD k 0 + 1)) (b.order ++ [k]) (pubK p k) ((deepK p k).filter fun x => !decide (x ∈ thereOf p b.order)) [] := by
  unfold openB openCh
  rw [if_neg h]
theorem open_counts {p : Plot} {b : Bs} {k : Nat} : (openB p b k).counts = b.counts.set k (b.counts.getD k 0 + 1) := by
  by_cases h : k ∈ b.order
  · rw [openB_in h]
  · rw [openB_out h]; rfl
theorem open_order {p : Plot} {b : Bs} {k : Nat} : (openB p b k).order = if k ∈ b.order then b.order else b.order ++ [k] := by
  by_cases h : k ∈ b.order
  · rw [openB_in h, if_pos h]
  · rw [openB_out h, if_neg h]; rfl
theorem open_mem {p : Plot} {b : Bs} {k : Nat} : k ∈ (openB p b k).order := by
  rw [open_order]
  split
  · assumption
  · simp
theorem open_sub {p : Plot} {b : Bs} {k j : Nat} (h : j ∈ b.order) : j ∈ (openB p b k).order := by
  rw [open_order]
  split
  · exact h
  · simp [h]
theorem nd_cat {xs ys : List Str} (h1 : xs.Nodup) (h2 : ys.Nodup) (h : ∀ x ∈ xs, x ∉ ys) : (xs ++ ys).Nodup := List.nodup_append.mpr ⟨h1, h2, fun a ha b hb e => h a ha (e ▸ hb)⟩
theorem mem_set_le {c : List Nat} {k v m : Nat} (h : ∀ x ∈ c, x ≤ m) (hv : v ≤ m) : ∀ x ∈ c.set k v, x ≤ m := fun x hx => by
  rcases List.mem_or_eq_of_mem_set hx with a | a
  · exact h x a
  · omega
theorem openB_ok {p : Plot} (hp : p.Ok) {b : Bs} (hb : b.Ok p) {k : Nat} (hk : k < p.doors.length) (hc : b.counts.getD k 0 < 2) : (openB p b k).Ok p := by
  by_cases h : k ∈ b.order
  · rw [openB_in h]
    exact ⟨by simpa using hb.cl, mem_set_le hb.cs (by omega), hb.ol, hb.on, hb.pub, hb.deep⟩
  · have a := inL_own hp (m := "global") (k := k)
    have d := inL_own hp (m := "deep") (k := k)
    have mono : ∀ x ∈ thereOf p b.order, x ∈ thereOf p (b.order ++ [k]) := fun x hx => there_mono (fun j hj => by simp [hj]) hx
    have new : ∀ x ∈ rowK p k, x ∈ thereOf p (b.order ++ [k]) := fun x hx => mem_row_there (k := k) (by simp) hx
    rw [openB_out h]
    refine ⟨by simpa [chg] using hb.cl, mem_set_le hb.cs (by omega), fun j hj => ?_, ?_, ⟨fun x hx => ?_, ?_⟩, ⟨fun x hx => ?_, ?_⟩⟩
    · rcases List.mem_append.mp hj with hj | hj
      · exact hb.ol j hj
      · rw [List.mem_singleton.mp hj]; exact hk
    · exact List.nodup_append.mpr ⟨hb.on, by simp, fun x hx y hy e => h (by rw [List.mem_singleton.mp hy] at e; rw [← e]; exact hx)⟩
    · rcases List.mem_append.mp (List.mem_filter.mp hx).1 with hx | hx
      · exact mono x (hb.pub.1 x hx)
      · exact new x (a.1 x (List.mem_filter.mp hx).1)
    · exact List.Pairwise.filter _ (nd_cat hb.pub.2 (a.2.1.filter _) fun x hx hy => by simpa [hx] using (List.mem_filter.mp hy).2)
    · have h2 := (List.mem_filter.mp hx).1
      by_cases e : ((deepK p k).filter fun x => !decide (x ∈ thereOf p b.order)) = []
      · rw [if_pos e] at h2
        exact mono x (hb.deep.1 x h2)
      · rw [if_neg e] at h2
        rcases List.mem_append.mp (srt_in.mp h2) with h2 | h2
        · exact mono x (hb.deep.1 x h2)
        · exact new x (d.1 x (List.mem_filter.mp h2).1)
    · refine List.Pairwise.filter _ ?_
      split
      · exact hb.deep.2
      · exact srt_nd (nd_cat hb.deep.2 (d.2.1.filter _) fun x hx hy => by simpa [hb.deep.1 x hx] using (List.mem_filter.mp hy).2)
theorem closeB_more {p : Plot} {b : Bs} {k : Nat} (h : 1 < b.counts.getD k 0) : closeB p b k = ⟨b.counts.set k (b.counts.getD k 0 - 1), b.order, b.pub, b.deep⟩ := by
  unfold closeB closeCh
  rw [if_pos (by omega)]
  exact chg_none _ _ _
theorem closeB_last {p : Plot} {b : Bs} {k : Nat} (h : b.counts.getD k 0 ≤ 1) : closeB p b k = chg b (b.counts.set k (b.counts.getD k 0 - 1)) (b.order.filter fun j => !decide (j = k)) [] [] ((rowK p k).filter fun x => !decide (x ∈ thereOf p (b.order.filter fun j => !decide (j = k)))) := by
  unfold closeB closeCh
  rw [if_neg (by omega)]
theorem close_counts {p : Plot} {b : Bs} {k : Nat} : (closeB p b k).counts = b.counts.set k (b.counts.getD k 0 - 1) := by
  by_cases h : 1 < b.counts.getD k 0
  · rw [closeB_more h]
  · rw [closeB_last (by omega)]; rfl
theorem closeB_ok {p : Plot} (hp : p.Ok) {b : Bs} (hb : b.Ok p) {k : Nat} : (closeB p b k).Ok p := by
  have hcc : ∀ x ∈ b.counts.set k (b.counts.getD k 0 - 1), x ≤ 2 := mem_set_le hb.cs (by
    rw [List.getD_eq_getElem?_getD]
    cases e : b.counts[k]? with
    | none => simp
    | some c =>
      have := hb.cs c (List.mem_of_getElem? e)
      simp
      omega)
  by_cases h : 1 < b.counts.getD k 0
  · rw [closeB_more h]
    exact ⟨by simpa using hb.cl, hcc, hb.ol, hb.on, hb.pub, hb.deep⟩
  · rw [closeB_last (by omega)]
    have stay : ∀ x ∈ thereOf p b.order, (!decide (x ∈ (rowK p k).filter fun x => !decide (x ∈ thereOf p (b.order.filter fun j => !decide (j = k))))) = true → x ∈ thereOf p (b.order.filter fun j => !decide (j = k)) := fun x hx hg => by
      rcases (there_mem _).mp hx with a | ⟨j, a, c⟩
      · exact (there_mem _).mpr (.inl a)
      · by_cases e : j = k
        · subst e
          by_cases z : x ∈ thereOf p (b.order.filter fun i => !decide (i = j))
          · exact z
          · have : x ∈ (rowK p j).filter fun x => !decide (x ∈ thereOf p (b.order.filter fun i => !decide (i = j))) := List.mem_filter.mpr ⟨c, by simpa using z⟩
            simp [this] at hg
        · exact mem_row_there (List.mem_filter.mpr ⟨a, by simpa using e⟩) c
    refine ⟨by simpa [chg] using hb.cl, hcc, fun j hj => hb.ol j (List.mem_filter.mp hj).1, hb.on.filter _, ⟨fun x hx => ?_, ?_⟩, ⟨fun x hx => ?_, ?_⟩⟩
    · have h2 := List.mem_filter.mp hx
      refine stay x (hb.pub.1 x ?_) h2.2
      simpa using h2.1
    · exact List.Pairwise.filter _ (by simpa using hb.pub.2 : List.Nodup _)
    · have h2 := List.mem_filter.mp hx
      refine stay x (hb.deep.1 x ?_) h2.2
      simpa using h2.1
    · exact List.Pairwise.filter _ (by simpa using hb.deep.2 : List.Nodup _)
theorem looks_there {p : Plot} {b : Bs} (hb : b.Ok p) {x y : Str} (h : y ∈ looksOf p b x) : y ∈ thereOf p b.order := by
  unfold looksOf at h
  split at h
  · exact hb.pub.1 y h
  · rcases addNew_mem _ _ h with h | h
    · have gen : ∀ (o : List Nat) (f : List Str), y ∈ o.foldl (lkStep p x) f → y ∈ f ∨ ∃ k ∈ o, y ∈ rowK p k := by
        intro o
        induction o with
        | nil => exact fun f h => .inl h
        | cons k o ih =>
          intro f h
          rcases ih _ h with h | ⟨j, h1, h2⟩
          · unfold lkStep at h
            split at h
            · rcases addNew_mem _ _ h with h | h
              · exact .inl h
              · exact .inr ⟨k, by simp, h⟩
            · exact .inl h
          · exact .inr ⟨j, by simp [h1], h2⟩
      rcases gen _ _ h with h | ⟨k, h1, h2⟩
      · split at h
        · cases h
        · rcases addNew_mem _ _ h with h | h
          · cases h
          · exact hb.pub.1 y h
      · exact mem_row_there h1 h2
    · exact hb.pub.1 y h
theorem looks_own {p : Plot} (hp : p.Ok) {b : Bs} (hb : b.Ok p) {x : Str} : (∀ y ∈ looksOf p b x, y ∈ p.owns) ∧ (looksOf p b x).length ≤ 10 := by
  have h1 : ∀ y ∈ looksOf p b x, y ∈ p.owns := fun y hy => there_own hp _ y (looks_there hb hy)
  refine ⟨h1, Nat.le_trans (nd_le _ _ ?_ h1) (owns_len hp)⟩
  unfold looksOf
  split
  · exact hb.pub.2
  · refine addNew_nd _ _ (lk_own hp x _ _ ?_).2
    split
    · exact ⟨fun y h => (nomatch h), List.Pairwise.nil⟩
    · exact own_add ⟨fun y h => (nomatch h), List.Pairwise.nil⟩ (pub_own hp hb)
end
end K12
set_option Elab.async false
set_option linter.all false
set_option maxRecDepth 100000
set_option maxHeartbeats 4000000
namespace K12
open PySem PySem.Spec PyProof.Rows L2 Tr
variable [Tabbed]
local macro_rules | `(tactic| walk_at "tr") => `(tactic| simp only [wOwn, wRet, wRetN, wExpr, wAsg, wSet, wSetN, wPar, wParV0, wParN0, wAugI, wgNil, wgCons, wCall, wCall0, wCallM, wCallN, wIxO, wFn, wFn1, wFnN, wTuple1, wAppend, wPopAt, wSetO, wNeO, wIsN, wTup, wLst, wYes, wRep, wSliceL, wSliceT, wRev, wRevT, wIsLT, wIs1, wNeg, wChainI, wMinT, wCallRev, wTru, wInD, wSortedD, wSortedK, wNotN, wAugT, wSetDc, wDput, wNameD, wSlotGet, wSlotPut, wSetLeft, wItems, wFld, wFldO, wSetF, wSetFD, wMethO, wCallO, wMake, wStill, wParB, wSetB, wStar, wSortLam, insAt, objAt, ownAt, asInt, asNat, asList, asTuple, someOf, seqItems, at0, at1, at2, at3, wIf, wB, wOp, wOpN, wName, wLook, wN, wC, wAnd, wOr, wNot, wAndV, wOrV, wNotV, wSeq, wNext, wIfS, wNil, wCons, wPart, wgSeq, gvName, wTurn, wipeE, gI, gI0, gEq, gNe, gLen, gIx, gInt, gAbs, gMin2, gList, gTup1, gMulS, gAll, gCatL, gCatT, gRepT, gRepP, Tr.isNone, Tr.isLT, Tr.top, Tr.isTup, Tr.isInt, Tr.isBool, startE, startM, startO, putT, List.map_cons, List.map_nil, List.length_cons, List.length_nil, List.cons_append, List.nil_append, List.getElem?_cons_zero, List.getElem?_cons_succ, List.set_cons_zero, List.set_cons_succ, List.replicate, List.length_map, if_true, if_false, Bool.false_eq_true, reduceIte, List.mem_cons, List.not_mem_nil, or_false, forall_eq, forall_eq_or_imp, false_implies, implies_true, true_and, and_true, Bool.not_true, Bool.not_false, Option.bind_some, Option.map_some, Option.map_none, Int.reduceLT, Int.reduceLE, Int.reduceToNat, Int.toNat_zero, Int.toNat_one, Int.toNat_natCast, Nat.reduceAdd, Nat.reduceLT, decide_true, List.set, Int.add_zero, Int.zero_add])
section
variable {P : Program} {w : World} {K : PySem.W.Frag} {mg : Str → Option Value} {base : Heap}
/-! ### what is left of the slots -/
def keyIn (ks : List Str) (k : List Key) : Bool := match k with
  | .inr x :: _ => decide (x ∈ ks)
  | _ => false
def leftL (ks : List Str) (l : TD) : TD := (l.filter fun e => keyIn ks e.1).map fun e => (e.1, aLeft ks e.2)
structure Kept (l : TD) : Prop where
  nd : (l.map Prod.fst).Nodup
  ks : ∀ e ∈ l, ∃ x n, e.1 = kSI x n
  an : ∀ e ∈ l, Ans e.2
  ln : l.length ≤ 1000
def gLeft : TD → List (Str × PyData) → TD → Prop := fun l m l' => ∃ ks, m = ofKeys ks ∧ Kept l ∧ l' = leftL ks l
theorem val_at {kvs : List (List Key × V)} (nd : (kvs.map Prod.fst).Nodup) : ∀ {i : Nat} {k : List Key} {v : V}, kvs[i]? = some (k, v) → valV kvs k = some v := by
  induction kvs with
  | nil => intro i k v h; simp at h
  | cons p kvs ih =>
    intro i k v h
    rw [List.map_cons, List.nodup_cons] at nd
    cases i with
    | zero =>
      simp only [List.getElem?_cons_zero, Option.some.injEq] at h
      subst h
      exact valV_pos rfl
    | succ i =>
      have h' : kvs[i]? = some (k, v) := by simpa using h
      have hk : p.1 ≠ k := fun e => nd.1 (by rw [e]; exact List.mem_map.mpr ⟨(k, v), List.mem_of_getElem? h', rfl⟩)
      obtain ⟨pk, pv⟩ := p
      rw [valV_neg hk]
      exact ih nd.2 h'
theorem put_new {kvs : List (List Key × V)} {k : List Key} {v : V} (h : k ∉ kvs.map Prod.fst) : putK kvs k v = kvs ++ [(k, v)] := by
  unfold putK
  rw [if_neg]
  intro z
  obtain ⟨p, hp, e⟩ := List.any_eq_true.mp z
  exact h (List.mem_map.mpr ⟨p, hp, by simpa using e⟩)
theorem left_step {ks : List Str} {l : TD} {i : Nat} {e : List Key × PyData} (h : l[i]? = some e) : leftL ks (l.take (i + 1)) = leftL ks (l.take i) ++ (if keyIn ks e.1 = true then [(e.1, aLeft ks e.2)] else []) := by
  unfold leftL
  rw [take_one h, List.filter_append, List.map_append]
  cases c : keyIn ks e.1 <;> simp [c]
theorem left_keys {ks : List Str} {l : TD} {k : List Key} (h : k ∈ (leftL ks l).map Prod.fst) : k ∈ l.map Prod.fst := by
  unfold leftL at h
  rw [List.map_map] at h
  obtain ⟨e, he, rfl⟩ := List.mem_map.mp h
  exact List.mem_map.mpr ⟨e, (List.mem_filter.mp he).1, rfl⟩
theorem left_len {ks : List Str} {l : TD} : (leftL ks l).length ≤ l.length := by
  unfold leftL
  rw [List.length_map]
  exact List.length_filter_le _ _
theorem tok_frz {H H' : Hp} (h : CodeTabs H) {a : Addr} {od : Obj} {m : List (List Key × V)} (e : H a = some (.frz od (.dT m))) (k : ∀ b o, b ≠ a → H b = some o → H' b = some o) : CodeTabs H' := fun p hp => by
  obtain ⟨ps, h1, h2, h3⟩ := h p hp
  refine ⟨ps, k _ _ (fun z => ?_) h1, h2, fun pos cv hc => ?_⟩
  · rw [z, e] at h1
    cases h1
  · obtain ⟨c, e1, e2⟩ := h3 pos cv hc
    refine ⟨c, e1, k _ _ (fun z => ?_) e2⟩
    rw [z, e] at e2
    cases e2
/-- between two turns -/
structure LfAt (K : PySem.W.Frag) (S H HL : Hp) (D q : Addr) (ks : List Str) (l : TD) (k : Nat) (G : Hp) : Prop where
  ex : ∃ S' kvs', Same S S' ∧ Same S' G ∧ (∀ b, S b = none → S' b ≠ none → H b = none) ∧ S' D = none ∧ S' q = none ∧ G D = some (.dT kvs') ∧ TL K S' kvs' (leftL ks (l.take k))
  le : ∀ b o, ¬ Tb b → HL b = some o → G b = some o
  tok : CodeTabs G
theorem ok_slots_left (T : Top K mg) : FnOk P w K mg base (L2.CX P w) 2 T.a_slots_left T.d_slots_left ["slots", "there"] (spLeft K gLeft) := by
  refine T.F_slots_left.okX sc_slots_left (fun vs H Q E h => ?_) fun c A o s H vs Q E hr hsp => ?_
  · obtain ⟨S, q, v, kvs, l, m, l', rfl, _⟩ := h
    rfl
  have nd := sc_slots_left.nd
  have hu1 := hu_of hr

  refine ⟨_, PSs.nox (pss_one (ps_ret (pe_lock (pe_dcT (own := [("key", 2)]) (tt := tB (tDIn (tOp (rIx K) (tVar 2) (tC (.int 0))) (tVar 1))) (tk := tVar 2) (tv := tCall (spV K 2 tLeftA) [] E0 (tCons (tDGet (tVar 0) (tVar 2)) (tCons (tVar 1) tNil))) hu1 rfl nd (pi_keys (EV.pe (ev_name 0))) (blkOk_by (N := N_slots_left) (sc := defScope s_slots_left) (by decide +kernel)) (fun _ _ _ _ _ => GV.pg (gv_name 2 nd)) (fun _ _ _ _ _ => pts_one (pt_cmp (pc_din (by exact hu1) (pe_ix ix_seq (EV.pe (ev_name 2)) (EV.pe ev_int) (by intro _ _; rfl)) (EV.pe (ev_name 1))))) (fun _ _ _ _ _ => (EV.pe (ev_name 2)))
    (fun _ _ _ _ _ => pe_call (ok_answer_left T) (hr.mono (by decide)) rfl T.m_answer_left T.F_answer_left.kp T.B_answer_left .nil passL (pa_cons (pe_dget (by exact hu1) (EV.pe (ev_name 0)) (EV.pe (ev_name 2)) (by intro _ _; rfl)) (pa_cons (EV.pe (ev_name 1)) pa_nil))))))), ?_⟩
  obtain ⟨S, q, v, kvs, l, m, l', rfl, sm, fo, hq, sq, tl, dv, hG, post⟩ := hsp
  obtain ⟨ks, rfl, kp, rfl⟩ := hG
  have dvT := dv
  obtain ⟨tp, tkvs, rfl, tk1, tk2, tk3⟩ := dv.dcInv
  have ll := tl.len
  have ndk : (kvs.map Prod.fst).Nodup := by rw [tl.keys]; exact kp.nd
  refine ⟨q, .dT kvs, hq, trivial, fun od => ?_⟩
  generalize hHL : upd H q (.frz od (.dT kvs)) = HL
  have HLq : HL q = some (.frz od (.dT kvs)) := by rw [← hHL, upd_same]
  have HLo : ∀ b, b ≠ q → HL b = H b := fun b hb => by rw [← hHL, upd_ne hb]
  have nTq : ¬ Tb q := fun w => by
    obtain ⟨ps, e⟩ := fo.tok.tbl w
    rw [hq] at e
    cases e
  have tokL : CodeTabs HL := by
    rw [← hHL]
    exact fo.tok.butO hq .dT fun b y hb z => by rw [upd_ne hb]; exact z
  refine ⟨.ref q, rfl, q, od, rfl, .inr ⟨kvs, HLq, fun D nD => ?_⟩⟩
  have nDq : D ≠ q := fun w => by rw [w, HLq] at nD; cases nD
  have HD : H D = none := by rw [← HLo D nDq]; exact nD
  refine ⟨fun k m G => m = kvs.length - k ∧ k ≤ kvs.length ∧ LfAt K S H HL D q ks l k G, ⟨kvs.length, by simp, Nat.zero_le _, ⟨S, [], Same.refl S, fun b o eb => ?_, fun b u w => absurd u w, same_none sm HD, sq, upd_same, .nil⟩, fun b o nt eb => ?_, ?_⟩, ?_⟩
  · have b1 : b ≠ D := fun w => by rw [w, same_none sm HD] at eb; cases eb
    have b2 : b ≠ q := fun w => by rw [w, sq] at eb; cases eb
    rw [upd_ne b1, HLo b b2]
    exact sm b o eb
  · rw [upd_ne (ne_of_none eb nD)]
    exact eb
  · exact tokL.same fun b o eb => by rw [upd_ne (ne_of_none eb nD)]; exact eb
  · rintro k m G ⟨rfl, hk, ⟨S', kvs', sm', sub, fresh, sD, sq', gD, tl'⟩, le, tok⟩
    by_cases hlt : k < kvs.length
    · refine .inr ⟨⟨le _ _ nTq HLq, hlt⟩, LfAt K S H HL D q ks l (k + 1), fun G' a => ⟨kvs.length - (k + 1), by omega, rfl, hlt, a⟩, fun w G' yl => ?_⟩
      obtain ⟨rfl, key, v, a, hkv, rfl, ha⟩ := yl
      obtain ⟨d, hd1, dv⟩ := tl.at hkv
      obtain ⟨xs, nn, ek⟩ := kp.ks (key, d) (List.mem_of_getElem? hd1)
      replace ek : key = kSI xs nn := ek
      subst ek
      have ls : (L2.start N_slots_left [V.ref q, V.ref tp]) = [some (V.ref q), some (V.ref tp), none] := rfl
      rw [ls]
      refine ⟨rfl, .ref a, rfl, .inr (.inl ⟨a, (kSI xs nn).map kV, 0, .str xs, rfl, rfl, .inl (.inl ha), rfl, .ref tp, rfl, tp, _, rfl, .inl ⟨tkvs, Sum.inr xs, .inl (sub _ _ (sm' _ _ tk1)), rfl, rfl⟩, _, rfl, ?_⟩)⟩
      rw [get_dc xs tk2 tk3, keys_of]
      have step : leftL ks (l.take (k + 1)) = leftL ks (l.take k) ++ (if decide (xs ∈ ks) = true then [(kSI xs nn, aLeft ks d)] else []) := left_step (e := (kSI xs nn, d)) hd1
      by_cases c : xs ∈ ks
      · rw [decide_eq_true c]
        rw [if_pos (by simpa using c)] at step
        have hvq : G' q = some (.frz od (.dT kvs)) := le _ _ nTq HLq
        refine ⟨.ref a, rfl, .ref q, rfl, .ref a, rfl, q, v, rfl, .inr ⟨kvs, kSI xs nn, a, .inr ⟨od, hvq⟩, rfl, ha, (val_at ndk hkv).symm⟩, .ref tp, rfl, ?_⟩
        have off : ∀ b, Tb b → S' b = none := fun b hb => by
          cases z : S' b with
          | none => rfl
          | some o =>
            have h1 := fresh b (fo.off b hb) (by rw [z]; simp)
            obtain ⟨ps, e⟩ := fo.tok.tbl hb
            rw [h1] at e
            cases e
        refine ⟨S', [d, dcT (ofKeys ks)], _, sub, ⟨tok, off⟩, .cons (dq_mono sm' dv) (.cons (dq_mono sm' dvT) .nil), rfl, ⟨d, ks, rfl, kp.an _ (List.mem_of_getElem? hd1), rfl⟩, fun d2 v2 S1 G4 e2 sm2 sub2 fresh2 lf dv2 => ?_⟩
        have hD3 : G4 D = some (.dT kvs') := lf.at_ D _ (tok.ns .dT gD) gD
        have ha3 : G4 a = some (.tup ((kSI xs nn).map kV)) := lf.at_ a _ (fun z => by
          obtain ⟨ps, e⟩ := tok.tbl z
          rw [ha] at e
          cases e) ha
        have s1D : S1 D = none := by
          cases z : S1 D with
          | none => rfl
          | some o =>
            have := fresh2 D sD (by rw [z]; simp)
            rw [gD] at this
            cases this
        have s1q : S1 q = none := by
          cases z : S1 q with
          | none => rfl
          | some o =>
            have := fresh2 q sq' (by rw [z]; simp)
            rw [hvq] at this
            cases this
        have lk : kvs'.length ≤ l.length := by
          rw [tl'.len]
          exact Nat.le_trans left_len (by rw [List.length_take]; omega)
        have nin : kSI xs nn ∉ kvs'.map Prod.fst := fun z => by
          rw [tl'.keys] at z
          have z2 := left_keys z
          obtain ⟨e, he, ee⟩ := List.mem_map.mp z2
          obtain ⟨i, hi⟩ := List.mem_iff_getElem?.mp he
          rw [List.getElem?_take] at hi
          by_cases ik : i < k
          · rw [if_pos ik] at hi
            have n1 : (l.map Prod.fst)[i]? = some (kSI xs nn) := by rw [List.getElem?_map, hi, Option.map_some, ee]
            have n2 : (l.map Prod.fst)[k]? = some (kSI xs nn) := by rw [List.getElem?_map, hd1]; rfl
            obtain ⟨b1, c1⟩ := List.getElem?_eq_some_iff.mp n1
            obtain ⟨b2, c2⟩ := List.getElem?_eq_some_iff.mp n2
            have := List.pairwise_iff_getElem.mp kp.nd i k b1 b2 ik
            exact this (by rw [c1, c2])
          · rw [if_neg ik] at hi
            cases hi
        refine ⟨kvs', kSI xs nn, a, rfl, ha3, hD3, by have := kp.ln; rw [sizeLine_eq]; omega, ⟨S1, kvs' ++ [(kSI xs nn, v2)], sm'.trans sm2, fun b o eb => ?_, fun b w1 w2 => ?_, s1D, s1q, ?_, ?_⟩, fun b o nt eb => ?_, ?_⟩
        · have b1 : b ≠ D := fun w => by rw [w, s1D] at eb; cases eb
          rw [upd_ne b1]
          exact sub2 b o eb
        · cases z : S' b with
          | some o => exact fresh b w1 (by rw [z]; simp)
          | none =>
            have h1 := fresh2 b z w2
            cases y : H b with
            | none => rfl
            | some o =>
              by_cases tb : Tb b
              · obtain ⟨ps, e⟩ := tok.tbl tb
                rw [h1] at e
                cases e
              · by_cases bq : b = q
                · rw [bq, hvq] at h1
                  cases h1
                · rw [le b o tb (by rw [HLo b bq]; exact y)] at h1
                  cases h1
        · rw [upd_same, put_new nin]
        · rw [step]
          exact (tl'.mono sm2).snoc (by subst e2; exact dv2)
        · rw [upd_ne (ne_of_none eb nD)]
          exact lf.at_ b o nt (le b o nt eb)
        · exact lf.tok.butO hD3 .dT fun b y hb z => by rw [upd_ne hb]; exact z
      · rw [decide_eq_false c]
        rw [if_neg (by simpa using c), List.append_nil] at step
        refine ⟨⟨S', kvs', sm', sub, fresh, sD, sq', gD, ?_⟩, le, tok⟩
        rw [step]
        exact tl'
    · have ek : k = kvs.length := by omega
      subst ek
      rw [ll, List.take_length] at tl'
      refine .inl ⟨⟨le _ _ nTq HLq, Nat.le_refl _⟩, le _ _ nTq HLq, ?_⟩
      have npq : D ≠ q := nDq
      refine post D S' _ kvs' HD (by rw [upd_ne nDq]; exact gD) tl' sm' (fun b o eb => ?_) fresh ⟨fun b o nt eb => ?_, ?_⟩ sD
      · have b2 : b ≠ q := fun w => by rw [w, sq'] at eb; cases eb
        rw [upd_ne b2]
        exact sub b o eb
      · by_cases hb : b = q
        · subst hb
          rw [upd_same, ← hq, eb]
        · rw [upd_ne hb]
          exact le b o nt (by rw [HLo b hb]; exact eb)
      · exact tok_frz tok (le _ _ nTq HLq) fun b y hb z => by rw [upd_ne hb]; exact z
end
end K12
set_option Elab.async false
set_option linter.all false
set_option maxRecDepth 100000
set_option maxHeartbeats 4000000
namespace K12
open PySem PySem.Spec PyProof.Rows L2 Tr
variable [Tabbed]
local macro_rules | `(tactic| walk_at "tr") => `(tactic| simp only [wOwn, wRet, wRetN, wExpr, wAsg, wSet, wSetN, wPar, wParV0, wParN0, wAugI, wgNil, wgCons, wCall, wCall0, wCallM, wCallN, wIxO, wFn, wFn1, wFnN, wTuple1, wAppend, wPopAt, wSetO, wNeO, wIsN, wTup, wLst, wYes, wRep, wSliceL, wSliceT, wRev, wRevT, wIsLT, wIs1, wNeg, wChainI, wMinT, wCallRev, wTru, wInD, wSortedD, wSortedK, wNotN, wAugT, wSetDc, wDput, wNameD, wSlotGet, wSlotPut, wSetLeft, wItems, wFld, wFldO, wSetF, wSetFD, wMethO, wCallO, wMake, wStill, wParB, wSetB, wStar, wSortLam, insAt, objAt, ownAt, asInt, asNat, asList, asTuple, someOf, seqItems, at0, at1, at2, at3, wIf, wB, wOp, wOpN, wName, wLook, wN, wC, wAnd, wOr, wNot, wAndV, wOrV, wNotV, wSeq, wNext, wIfS, wNil, wCons, wPart, wgSeq, gvName, wTurn, wipeE, gI, gI0, gEq, gNe, gLen, gIx, gInt, gAbs, gMin2, gList, gTup1, gMulS, gAll, gCatL, gCatT, gRepT, gRepP, Tr.isNone, Tr.isLT, Tr.top, Tr.isTup, Tr.isInt, Tr.isBool, startE, startM, startO, putT, List.map_cons, List.map_nil, List.length_cons, List.length_nil, List.cons_append, List.nil_append, List.getElem?_cons_zero, List.getElem?_cons_succ, List.set_cons_zero, List.set_cons_succ, List.replicate, List.length_map, if_true, if_false, Bool.false_eq_true, reduceIte, List.mem_cons, List.not_mem_nil, or_false, forall_eq, forall_eq_or_imp, false_implies, implies_true, true_and, and_true, Bool.not_true, Bool.not_false, Option.bind_some, Option.map_some, Option.map_none, Int.reduceLT, Int.reduceLE, Int.reduceToNat, Int.toNat_zero, Int.toNat_one, Int.toNat_natCast, Nat.reduceAdd, Nat.reduceSub, Nat.reduceLT, decide_true, List.set, Int.add_zero, Int.zero_add])
section
variable {P : Program} {w : World} {K : PySem.W.Frag} {mg : Str → Option Value} {base : Heap}
/-! ### a Process -/
def proFs (C : Addr) (p : Plot) (b : Bs) : List (Str × Fv) := [("_program", .val (plotT true p)), ("_layout", .val (layT C p)), ("_base", .val b.d), ("_slots", .dic)]
def proO (T : Top K mg) (x q : Addr) (p : Plot) (b : Bs) (sl : TD) : Ob := .ins x T.C_P (proFs T.C_L p b) q (some sl)
theorem fP_program (C : Addr) (p : Plot) (b : Bs) : (proFs C p b).lookup ("_program" : Str) = some (.val (plotT true p)) := look_eq
theorem fP_layout (C : Addr) (p : Plot) (b : Bs) : (proFs C p b).lookup ("_layout" : Str) = some (.val (layT C p)) := (look_ne (by decide)).trans look_eq
theorem fP_base (C : Addr) (p : Plot) (b : Bs) : (proFs C p b).lookup ("_base" : Str) = some (.val b.d) := (look_ne (by decide)).trans ((look_ne (by decide)).trans look_eq)
theorem fP_slots (C : Addr) (p : Plot) (b : Bs) : (proFs C p b).lookup ("_slots" : Str) = some .dic := (look_ne (by decide)).trans ((look_ne (by decide)).trans ((look_ne (by decide)).trans look_eq))
theorem fP_no {C : Addr} {p : Plot} {b : Bs} {m : Str} (h1 : m ≠ "_program") (h2 : m ≠ "_layout") (h3 : m ≠ "_base") (h4 : m ≠ "_slots") : (proFs C p b).lookup m = none := (look_ne h1).trans ((look_ne h2).trans ((look_ne h3).trans ((look_ne h4).trans rfl)))
theorem put_base (C : Addr) (p : Plot) (b b' : Bs) : putT "_base" (.val b'.d) (proFs C p b) = proFs C p b' := by
  unfold proFs
  simp only [putT]
  rw [if_neg (by decide +kernel), if_neg (by decide +kernel), if_pos trivial]
theorem put_slots (C : Addr) (p : Plot) (b : Bs) : putT "_slots" .dic (proFs C p b) = proFs C p b := by
  unfold proFs
  simp only [putT]
  rw [if_neg (by decide +kernel), if_neg (by decide +kernel), if_neg (by decide +kernel), if_pos trivial]
theorem noDic_P (C : Addr) (p : Plot) (b : Bs) : noDic "_slots" (proFs C p b) := fun e he hne => by
  unfold proFs at he
  simp only [List.mem_cons, List.not_mem_nil, or_false] at he
  rcases he with rfl | rfl | rfl | rfl
  · exact fun z => nomatch z
  · exact fun z => nomatch z
  · exact fun z => nomatch z
  · exact absurd rfl hne
theorem un_P (C : Addr) (p : Plot) (b : Bs) : ((proFs C p b).map Prod.fst).Nodup := by
  show (["_program", "_layout", "_base", "_slots"] : List Str).Nodup
  decide +kernel
structure Stand (p : Plot) (b : Bs) (sl : TD) : Prop where
  pk : p.Ok
  bk : b.Ok p
  kp : Kept sl
def tCount (T : Top K mg) : TSo := fun o ds Q => ∃ (x q : Addr) (p : Plot) (b : Bs) (sl : TD) (k : Nat), Stand p b sl ∧ k < p.doors.length ∧ o = proO T x q p b sl ∧ ds = [.int (k : Int)] ∧ Q (.int (b.counts.getD k 0 : Nat)) o
theorem ok_P_count (T : Top K mg) : FnOk P w K mg base (L2.CX P w) 2 T.a_P_count T.d_P_count ["self", "k"] (spO K 1 (tCount T)) := by
  refine fnO T.F_P_count sc_P_count rfl fun c A o s H E hr => ?_
  have nd := sc_P_count.nd
  have hu := hr.units
  refine ⟨_, _, (svs_cons (sv_set 2 nd (ev_ix (ev_fldO 0 T.c_P T.n_P_base) ev_int))
      (svs_cons (sv_if (et_not (et_val (ev_call (ok_is_below T) (hr.mono (by decide)) T.m_is_below T.F_is_below.kp T.B_is_below (ea_cons (ev_name 1) (ea_cons (ev_len T.b_len (er_name 2)) ea_nil))))) (svs_one sv_dead) svs_nil)
      (svs_one (sv_ret (ev_ix (ev_name 2) (ev_name 1)))))), fun ob ds P' hl hT => ?_⟩
  obtain ⟨x, q, p, b, sl, k, st, hk, rfl, rfl, qq⟩ := hT
  simp only [proO]
  walk_at "tr"
  refine ⟨_, fP_base _ p b, ?_⟩
  simp only [Bs.d, natsT]
  walk_at "tr"
  refine ⟨rfl, ?_⟩
  refine ⟨(k : Int), b.counts.length, by rw [List.length_map], ?_⟩
  have hkc : k < b.counts.length := by have := st.bk.cl; omega
  simp only [Int.natCast_nonneg, decide_true, Bool.true_and, show ((k : Int) < (b.counts.length : Int)) from by omega, Bool.not_true, Bool.false_eq_true, if_false]
  refine Tr.Later.now ?_
  walk_at "tr"
  refine Tr.Later.now ?_
  walk_at "tr"
  rw [atI_nat, getD_at hkc]
  first | exact ⟨rfl, trivial, qq⟩ | exact ⟨trivial, qq⟩ | exact ⟨rfl, qq⟩ | exact qq
def tLibT (T : Top K mg) : TSo := fun o ds Q => ∃ (x q : Addr) (p : Plot) (b : Bs) (sl : TD) (l : Lib) (i : Nat), Stand p b sl ∧ p.libs[i]? = some l ∧ l.own ∈ thereOf p b.order ∧ o = proO T x q p b sl ∧ ds = [.str l.own] ∧ Q (libT true l) o
theorem ok_P_lib_there (T : Top K mg) : FnOk P w K mg base (L2.CX P w) 2 T.a_P_lib_there T.d_P_lib_there ["self", "name"] (spO K 1 (tLibT T)) := by
  refine fnO T.F_P_lib_there sc_P_lib_there rfl fun c A o s H E hr => ?_
  have nd := sc_P_lib_there.nd
  have hu1 := hu_of hr
  refine ⟨_, _, (svs_cons (sv_set 2 nd (ev_call (ok_lib_named T) (hr.mono (by decide)) T.m_lib_named T.F_lib_named.kp T.B_lib_named (ea_cons (ev_fldO 0 T.c_P T.n_P_program) (ea_cons (ev_name 1) ea_nil))))
      (svs_cons (sv_if (et_notInD hu1 (ev_name 1) (ev_call (ok_names_there T) (hr.mono (by decide)) T.m_names_there T.F_names_there.kp T.B_names_there (ea_cons (ev_fldO 0 T.c_P T.n_P_layout) (ea_cons (ev_ix (ev_fldO 0 T.c_P T.n_P_base) ev_int) ea_nil)))) (svs_one sv_dead) svs_nil)
      (svs_one (sv_ret (ev_name 2))))), fun ob ds P' hl hT => ?_⟩
  obtain ⟨x, q, p, b, sl, l, i, st, hi, ht, rfl, rfl, qq⟩ := hT
  have hol := st.bk.olen st.pk
  simp only [proO]
  walk_at "tr"
  refine ⟨_, fP_program _ p b, true, p, l, i, fine_of st.pk, hi, rfl, ?_⟩
  refine Tr.Later.now ?_
  walk_at "tr"
  refine ⟨_, fP_layout _ p b, _, fP_base _ p b, ?_⟩
  simp only [Bs.d]
  walk_at "tr"
  refine ⟨p, b.order, st.pk, st.bk.ol, by omega, rfl, _, _, rfl, rfl, ?_⟩
  rw [keys_of]
  simp only [ht, decide_true, Bool.not_true, Bool.false_eq_true, if_false]
  refine Tr.Later.now ?_
  walk_at "tr"
  refine Tr.Later.now ?_
  walk_at "tr"
  first | exact ⟨rfl, trivial, qq⟩ | exact ⟨trivial, qq⟩ | exact ⟨rfl, qq⟩ | exact qq
def tSlot (T : Top K mg) : TSo := fun o ds Q => ∃ (x q : Addr) (p : Plot) (b : Bs) (sl : TD) (l : Lib) (i : Nat) (u : (Str × Str) × Bool) (j : Nat), Stand p b sl ∧ p.libs[i]? = some l ∧ l.own ∈ thereOf p b.order ∧ l.uses[j]? = some u ∧ o = proO T x q p b sl ∧ ds = [.str l.own, .int (j : Int)] ∧ Q ((getP sl (kSI l.own j)).getD .none) o
theorem ok_P_slot (T : Top K mg) : FnOk P w K mg base (L2.CX P w) 3 T.a_P_slot T.d_P_slot ["self", "name", "i"] (spO K 2 (tSlot T)) := by
  refine fnO T.F_P_slot sc_P_slot rfl fun c A o s H E hr => ?_
  have nd := sc_P_slot.nd
  have hu1 := hu_of hr
  refine ⟨_, _, (svs_cons (sv_expr (ev_call (ok_use_in T) (hr.mono (by decide)) T.m_use_in T.F_use_in.kp T.B_use_in (ea_cons (ev_methO 0 (ok_P_lib_there T) (hr.mono (by decide)) T.c_P T.h_P_lib_there T.B_P_lib_there (ea_cons (ev_name 1) ea_nil)) (ea_cons (ev_name 2) ea_nil))))
      (svs_one (sv_ret (ev_slotGet 0 1 2 hu1 T.c_P T.n_P_slots)))), fun ob ds P' hl hT => ?_⟩
  obtain ⟨x, q, p, b, sl, l, i, u, j, st, hi, ht, hu, rfl, rfl, qq⟩ := hT
  simp only [proO]
  walk_at "tr"
  refine ⟨fP_no (by decide +kernel) (by decide +kernel) (by decide +kernel) (by decide +kernel), trivial, x, q, p, b, sl, l, i, st, hi, ht, rfl, rfl, l, j, u, hu, rfl, ?_⟩
  refine Tr.Later.now ?_
  walk_at "tr"
  refine ⟨fP_slots _ p b, sl, l.own, (j : Int), rfl, rfl, rfl, ?_⟩
  first | exact ⟨rfl, trivial, qq⟩ | exact ⟨trivial, qq⟩ | exact ⟨rfl, qq⟩ | exact qq
def tLooksP (T : Top K mg) : TSo := fun o ds Q => ∃ (x q : Addr) (p : Plot) (b : Bs) (sl : TD) (l : Lib) (i : Nat), Stand p b sl ∧ p.libs[i]? = some l ∧ l.own ∈ thereOf p b.order ∧ o = proO T x q p b sl ∧ ds = [.str l.own] ∧ Q (textsD (looksOf p b l.own)) o
theorem ok_P_looks (T : Top K mg) : FnOk P w K mg base (L2.CX P w) 3 T.a_P_looks T.d_P_looks ["self", "name"] (spO K 1 (tLooksP T)) := by
  refine fnO T.F_P_looks sc_P_looks rfl fun c A o s H E hr => ?_
  have nd := sc_P_looks.nd
  refine ⟨_, _, (svs_cons (sv_expr (ev_methO 0 (ok_P_lib_there T) (hr.mono (by decide)) T.c_P T.h_P_lib_there T.B_P_lib_there (ea_cons (ev_name 1) ea_nil)))
      (svs_one (sv_ret (ev_call (ok_looks_along T) (hr.mono (by decide)) T.m_looks_along T.F_looks_along.kp T.B_looks_along (ea_cons (ev_fldO 0 T.c_P T.n_P_layout) (ea_cons (ev_fldO 0 T.c_P T.n_P_base) (ea_cons (ev_name 1) ea_nil))))))), fun ob ds P' hl hT => ?_⟩
  obtain ⟨x, q, p, b, sl, l, i, st, hi, ht, rfl, rfl, qq⟩ := hT
  simp only [proO]
  walk_at "tr"
  refine ⟨fP_no (by decide +kernel) (by decide +kernel) (by decide +kernel) (by decide +kernel), trivial, x, q, p, b, sl, l, i, st, hi, ht, rfl, rfl, ?_⟩
  refine Tr.Later.now ?_
  walk_at "tr"
  refine ⟨_, fP_layout _ p b, _, fP_base _ p b, p, b, l.own, st.pk, st.bk, okOwn st.pk (there_own st.pk _ _ ht), rfl, ?_⟩
  first | exact ⟨rfl, trivial, qq⟩ | exact ⟨trivial, qq⟩ | exact ⟨rfl, qq⟩ | exact qq
def openP (p : Plot) (b : Bs) (k : Nat) : Str × Bs := if b.counts.getD k 0 = 2 then ("full", b) else ("opened", openB p b k)
def closeP (p : Plot) (b : Bs) (sl : TD) (k : Nat) : Str × Bs × TD := if b.counts.getD k 0 = 0 then ("shut", b, sl) else ("closed", closeB p b k, leftL (thereOf p (closeB p b k).order) sl)
def tOpenP (T : Top K mg) : TSo := fun o ds Q => ∃ (x q : Addr) (p : Plot) (b : Bs) (sl : TD) (k : Nat), Stand p b sl ∧ k < p.doors.length ∧ o = proO T x q p b sl ∧ ds = [.int (k : Int)] ∧ Q (.tuple [.str (openP p b k).1]) (proO T x q p (openP p b k).2 sl)
theorem ok_P_open_door (T : Top K mg) : FnOk P w K mg base (L2.CX P w) 4 T.a_P_open_door T.d_P_open_door ["self", "k"] (spO K 1 (tOpenP T)) := by
  refine fnO T.F_P_open_door sc_P_open_door rfl fun c A o s H E hr => ?_
  have nd := sc_P_open_door.nd
  have hu := hr.units
  refine ⟨_, _, (svs_cons (sv_if (et_eq hu (ev_methO 0 (ok_P_count T) (hr.mono (by decide)) T.c_P T.h_P_count T.B_P_count (ea_cons (ev_name 1) ea_nil)) (ev_globI (by rfl) T.m_mo ⟨_, rfl⟩)) (svs_one (sv_ret (ev_tup (ea_cons ev_str ea_nil)))) svs_nil)
      (svs_cons (sv_setF 0 T.c_P T.n_P_base (ev_call (ok_opened_base T) (hr.mono (by decide)) T.m_opened_base T.F_opened_base.kp T.B_opened_base (ea_cons (ev_fldO 0 T.c_P T.n_P_layout) (ea_cons (ev_fldO 0 T.c_P T.n_P_base) (ea_cons (ev_name 1) ea_nil)))))
      (svs_one (sv_ret (ev_tup (ea_cons ev_str ea_nil)))))), fun ob ds P' hl hT => ?_⟩
  obtain ⟨x, q, p, b, sl, k, st, hk, rfl, rfl, qq⟩ := hT
  simp only [proO]
  walk_at "tr"
  refine ⟨fP_no (by decide +kernel) (by decide +kernel) (by decide +kernel) (by decide +kernel), trivial, x, q, p, b, sl, k, st, hk, rfl, rfl, shaped_int _, shaped_int _, ?_⟩
  rw [eqv_int]
  unfold openP at qq
  by_cases e : b.counts.getD k 0 = 2
  · rw [if_pos e] at qq
    rw [if_pos (by simp only [decide_eq_true_eq]; omega)]
    refine Tr.Later.now ?_
    walk_at "tr"
    refine ⟨by rw [sizeLine_eq]; omega, ?_⟩
    first | exact ⟨rfl, trivial, qq⟩ | exact ⟨trivial, qq⟩ | exact ⟨rfl, qq⟩ | exact qq
  · rw [if_neg e] at qq
    rw [if_neg (by simp only [decide_eq_true_eq]; omega)]
    refine Tr.Later.now ?_
    walk_at "tr"
    refine Tr.Later.now ?_
    walk_at "tr"
    refine ⟨_, fP_layout _ p b, _, fP_base _ p b, p, b, k, st.pk, st.bk, hk, rfl, by show 4 < 1000; omega, ?_⟩
    rw [put_base]
    refine Tr.Later.now ?_
    walk_at "tr"
    refine ⟨by rw [sizeLine_eq]; omega, ?_⟩
    first | exact ⟨rfl, trivial, qq⟩ | exact ⟨trivial, qq⟩ | exact ⟨rfl, qq⟩ | exact qq
def tCloseP (T : Top K mg) : TSo := fun o ds Q => ∃ (x q : Addr) (p : Plot) (b : Bs) (sl : TD) (k : Nat), Stand p b sl ∧ k < p.doors.length ∧ o = proO T x q p b sl ∧ ds = [.int (k : Int)] ∧ ∀ r, Q (.tuple [.str (closeP p b sl k).1]) (proO T x r p (closeP p b sl k).2.1 (closeP p b sl k).2.2)
theorem ok_P_close_door (T : Top K mg) : FnOk P w K mg base (L2.CX P w) 4 T.a_P_close_door T.d_P_close_door ["self", "k"] (spO K 1 (tCloseP T)) := by
  refine fnO T.F_P_close_door sc_P_close_door rfl fun c A o s H E hr => ?_
  have nd := sc_P_close_door.nd
  have hu := hr.units
  refine ⟨_, _, (svs_cons (sv_if (et_eq hu (ev_methO 0 (ok_P_count T) (hr.mono (by decide)) T.c_P T.h_P_count T.B_P_count (ea_cons (ev_name 1) ea_nil)) ev_int) (svs_one (sv_ret (ev_tup (ea_cons ev_str ea_nil)))) svs_nil)
      (svs_cons (sv_setF 0 T.c_P T.n_P_base (ev_call (ok_closed_base T) (hr.mono (by decide)) T.m_closed_base T.F_closed_base.kp T.B_closed_base (ea_cons (ev_fldO 0 T.c_P T.n_P_layout) (ea_cons (ev_fldO 0 T.c_P T.n_P_base) (ea_cons (ev_name 1) ea_nil)))))
      (svs_cons (sv_setLeft 0 (ok_slots_left T) (hr.mono (by decide)) T.m_slots_left T.F_slots_left.kp T.B_slots_left T.c_P T.n_P_slots (ev_call (ok_names_there T) (hr.mono (by decide)) T.m_names_there T.F_names_there.kp T.B_names_there (ea_cons (ev_fldO 0 T.c_P T.n_P_layout) (ea_cons (ev_ix (ev_fldO 0 T.c_P T.n_P_base) ev_int) ea_nil))))
      (svs_one (sv_ret (ev_tup (ea_cons ev_str ea_nil))))))), fun ob ds P' hl hT => ?_⟩
  obtain ⟨x, q, p, b, sl, k, st, hk, rfl, rfl, qq⟩ := hT
  simp only [proO]
  walk_at "tr"
  refine ⟨fP_no (by decide +kernel) (by decide +kernel) (by decide +kernel) (by decide +kernel), trivial, x, q, p, b, sl, k, st, hk, rfl, rfl, shaped_int _, shaped_int _, ?_⟩
  rw [eqv_int]
  unfold closeP at qq
  by_cases e : b.counts.getD k 0 = 0
  · rw [if_pos e] at qq
    rw [if_pos (by simp only [decide_eq_true_eq]; omega)]
    refine Tr.Later.now ?_
    walk_at "tr"
    refine ⟨by rw [sizeLine_eq]; omega, ?_⟩
    have q1 := qq q
    first | exact ⟨rfl, trivial, q1⟩ | exact ⟨trivial, q1⟩ | exact ⟨rfl, q1⟩ | exact q1
  · rw [if_neg e] at qq
    rw [if_neg (by simp only [decide_eq_true_eq]; omega)]
    refine Tr.Later.now ?_
    walk_at "tr"
    refine Tr.Later.now ?_
    walk_at "tr"
    refine ⟨_, fP_layout _ p b, _, fP_base _ p b, p, b, k, st.pk, st.bk, hk, by omega, rfl, by show 4 < 1000; omega, ?_⟩
    rw [put_base]
    have ok2 := closeB_ok st.pk st.bk (k := k)
    have ol2 := ok2.olen st.pk
    refine Tr.Later.now ?_
    walk_at "tr"
    refine ⟨fP_slots _ p _, by show 4 < 1000; omega, ?_, un_P _ p _, _, fP_layout _ p _, _, fP_base _ p _, ?_⟩
    · exact noDic_P _ _ _
    simp only [Bs.d]
    walk_at "tr"
    refine ⟨p, (closeB p b k).order, st.pk, ok2.ol, by omega, rfl, ?_⟩
    refine ⟨sl, ofKeys (thereOf p (closeB p b k).order), _, rfl, rfl, ⟨_, rfl, st.kp, rfl⟩, fun r => ?_⟩
    rw [put_slots]
    refine Tr.Later.now ?_
    walk_at "tr"
    refine ⟨by rw [sizeLine_eq]; omega, ?_⟩
    have q1 := qq r
    first | exact ⟨rfl, trivial, q1⟩ | exact ⟨trivial, q1⟩ | exact ⟨rfl, q1⟩ | exact q1
end
end K12
set_option Elab.async false
set_option linter.all false
set_option maxRecDepth 100000
set_option maxHeartbeats 4000000
namespace K12
open PySem PySem.Spec PyProof.Rows L2 Tr
variable [Tabbed]
local macro_rules | `(tactic| walk_at "tr") => `(tactic| simp only [wOwn, wRet, wRetN, wExpr, wAsg, wSet, wSetN, wPar, wParV0, wParN0, wAugI, wgNil, wgCons, wCall, wCall0, wCallM, wCallN, wIxO, wFn, wFn1, wFnN, wTuple1, wAppend, wPopAt, wSetO, wNeO, wIsN, wTup, wLst, wYes, wRep, wSliceL, wSliceT, wRev, wRevT, wIsLT, wIs1, wNeg, wChainI, wMinT, wCallRev, wTru, wInD, wSortedD, wSortedK, wNotN, wAugT, wSetDc, wDput, wNameD, wSlotGet, wSlotPut, wSetLeft, wItems, wFld, wFldO, wSetF, wSetFD, wMethO, wCallO, wMake, wStill, wParB, wSetB, wStar, wSortLam, insAt, objAt, ownAt, asInt, asNat, asList, asTuple, someOf, seqItems, at0, at1, at2, at3, wIf, wB, wOp, wOpN, wName, wLook, wN, wC, wAnd, wOr, wNot, wAndV, wOrV, wNotV, wSeq, wNext, wIfS, wNil, wCons, wPart, wgSeq, gvName, wTurn, wipeE, gI, gI0, gEq, gNe, gLen, gIx, gInt, gAbs, gMin2, gList, gTup1, gMulS, gAll, gCatL, gCatT, gRepT, gRepP, Tr.isNone, Tr.isLT, Tr.top, Tr.isTup, Tr.isInt, Tr.isBool, startE, startM, startO, putT, List.map_cons, List.map_nil, List.length_cons, List.length_nil, List.cons_append, List.nil_append, List.getElem?_cons_zero, List.getElem?_cons_succ, List.set_cons_zero, List.set_cons_succ, List.replicate, List.length_map, if_true, if_false, Bool.false_eq_true, reduceIte, List.mem_cons, List.not_mem_nil, or_false, forall_eq, forall_eq_or_imp, false_implies, implies_true, true_and, and_true, Bool.not_true, Bool.not_false, Option.bind_some, Option.map_some, Option.map_none, Int.reduceLT, Int.reduceLE, Int.reduceToNat, Int.toNat_zero, Int.toNat_one, Int.toNat_natCast, Nat.reduceAdd, Nat.reduceSub, Nat.reduceLT, decide_true, List.set, Int.add_zero, Int.zero_add])
section
variable {P : Program} {w : World} {K : PySem.W.Frag} {mg : Str → Option Value} {base : Heap}
/-! ### calls -/
theorem lib_uniq {p : Plot} (hp : p.Ok) {l l' : Lib} (h : l ∈ p.libs) (h' : l' ∈ p.libs) (e : l.own = l'.own) : l = l' := by
  obtain ⟨i, hi⟩ := List.mem_iff_getElem?.mp h
  obtain ⟨j, hj⟩ := List.mem_iff_getElem?.mp h'
  have n1 : (p.libs.map (·.own))[i]? = some l.own := by rw [List.getElem?_map, hi]; rfl
  have n2 : (p.libs.map (·.own))[j]? = some l'.own := by rw [List.getElem?_map, hj]; rfl
  obtain ⟨b1, c1⟩ := List.getElem?_eq_some_iff.mp n1
  obtain ⟨b2, c2⟩ := List.getElem?_eq_some_iff.mp n2
  have nd := List.pairwise_iff_getElem.mp hp.libs.2.2.1
  rcases Nat.lt_trichotomy i j with z | z | z
  · exact absurd (by rw [c1, c2, e]) (nd i j b1 b2 z)
  · subst z
    rw [hi] at hj
    exact Option.some.inj hj
  · exact absurd (by rw [c1, c2, e]) (nd j i b2 b1 z)
def useOf (p : Plot) (x : Str) (j : Nat) : (Str × Str) × Bool := match p.libs.find? (fun l => decide (l.own = x)) with
  | some l => (l.uses[j]?).getD (("", ""), false)
  | none => (("", ""), false)
theorem useOf_eq {p : Plot} (hp : p.Ok) {l : Lib} {i j : Nat} {u : (Str × Str) × Bool} (hi : p.libs[i]? = some l) (hj : l.uses[j]? = some u) : useOf p l.own j = u := by
  unfold useOf
  have hm := List.mem_of_getElem? hi
  cases e : p.libs.find? (fun l' => decide (l'.own = l.own)) with
  | none =>
    have := List.find?_eq_none.mp e l hm
    simp at this
  | some l' =>
    have h1 := List.find?_some e
    have := lib_uniq hp (List.mem_of_find?_eq_some e) hm (by simpa using h1)
    subst this
    simp [hj]
def CallOk (p : Plot) (b : Bs) (x : Str) (j : Nat) : Prop := ∃ (l : Lib) (i : Nat) (u : (Str × Str) × Bool), p.libs[i]? = some l ∧ l.own = x ∧ x ∈ thereOf p b.order ∧ l.uses[j]? = some u
def keepD (d : PyData) : Bool := match d with
  | .tuple [.str x] => !decide (x = "lost")
  | _ => true
theorem Ans.shaped {d : PyData} (h : Ans d) : SeqAt.shaped d = true := by
  cases h with
  | bound n v hn hv => exact (good_tuple (n := 0) fun d hd => by
      simp only [List.mem_cons, List.not_mem_nil, or_false] at hd
      rcases hd with rfl | rfl | rfl
      · exact good_str (okS_word (by decide +kernel)).1
      · exact good_str hn.1
      · exact good_str hv.1).shaped (by decide)
  | one x hx _ => exact (good_tuple (n := 0) fun d hd => by
      rw [List.mem_singleton.mp hd]
      exact good_str hx.1).shaped (by decide)
theorem lost_shaped : SeqAt.shaped (.tuple [.str "lost"]) = true := (Ans.one "lost" (okS_word (by decide +kernel)) (by decide +kernel)).shaped
theorem eqv_lost {d : PyData} (h : Ans d) : PyData.eqv d (.tuple [.str "lost"]) = !keepD d := by
  cases h with
  | bound n v hn hv =>
    simp [PyData.eqv, PyData.eqvAll, keepD]
  | one x hx _ =>
    have e : PyData.eqv (.tuple [.str x]) (.tuple [.str "lost"]) = (PyData.eqv (.str x) (.str "lost") && true) := by simp only [PyData.eqv, PyData.eqvAll]
    rw [e, eqv_str]
    simp [keepD]
theorem Ans.some {d : PyData} (h : Ans d) : isNone d = false := by cases h <;> rfl
theorem gives_ok {p : Plot} (hp : p.Ok) {u : (Str × Str) × Bool} {x v : Str} (h : givesN p u x = some v) : okS v := by
  unfold givesN at h
  cases e : p.libs.find? (fun l => decide (l.own = x)) with
  | none => rw [e] at h; cases h
  | some l =>
    rw [e] at h
    have hl := (hp.libs.1 l (List.mem_of_find?_eq_some e)).1
    have h2 : v ∈ srtBy u.1.2 (goodV l.defs u.1.1 u.1.2) := List.mem_of_head? h
    have h3 : v ∈ goodV l.defs u.1.1 u.1.2 := List.mem_mergeSort.mp h2
    obtain ⟨m, hm, rfl⟩ := List.mem_map.mp h3
    exact (hl.defs.2.1 m (List.mem_filter.mp hm).1).2
theorem ans_cases {p : Plot} {along : List Str} {u : (Str × Str) × Bool} : (∃ n v, n ∈ along ∧ givesN p u n = some v ∧ ansOf p along u = bound n v) ∨ ansOf p along u = unb u := by
  unfold ansOf
  cases e : along.findSome? (fun x => (givesN p u x).map (bound x)) with
  | none => exact .inr rfl
  | some d =>
    obtain ⟨n, hn, h⟩ := List.exists_of_findSome?_eq_some e
    cases g : givesN p u n with
    | none => rw [g] at h; cases h
    | some v => rw [g] at h; exact .inl ⟨n, v, hn, g, (Option.some.inj h).symm⟩
theorem ans_ok {p : Plot} (hp : p.Ok) {along : List Str} (ho : ∀ x ∈ along, x ∈ p.owns) {u : (Str × Str) × Bool} : Ans (ansOf p along u) := by
  rcases ans_cases (p := p) (along := along) (u := u) with ⟨n, v, h1, h2, e⟩ | e
  · rw [e]
    exact .bound n v (okOwn hp (ho n h1)) (gives_ok hp h2)
  · rw [e]
    unfold unb
    split
    · exact .one _ (okS_word (by decide +kernel)) (by decide +kernel)
    · exact .one _ (okS_word (by decide +kernel)) (by decide +kernel)
def callP (p : Plot) (b : Bs) (sl : TD) (x : Str) (j : Nat) : PyData × TD := match getP sl (kSI x j) with
  | some d => (d, sl)
  | none => (ansOf p (looksOf p b x) (useOf p x j), if keepD (ansOf p (looksOf p b x) (useOf p x j)) = true then putP sl (kSI x j) (ansOf p (looksOf p b x) (useOf p x j)) else sl)
theorem get_mem {sl : TD} {k : List Key} {d : PyData} (h : getP sl k = some d) : (k, d) ∈ sl := by
  unfold getP at h
  cases e : sl.find? (fun p => decide (p.1 = k)) with
  | none => rw [e] at h; cases h
  | some q =>
    rw [e] at h
    have h1 := List.find?_some e
    have h2 := List.mem_of_find?_eq_some e
    obtain ⟨k', d'⟩ := q
    cases h
    have : k' = k := by simpa using h1
    subst this
    exact h2
def tCallP (T : Top K mg) : TSo := fun o ds Q => ∃ (a q : Addr) (p : Plot) (b : Bs) (sl : TD) (x : Str) (j : Nat), Stand p b sl ∧ CallOk p b x j ∧ o = proO T a q p b sl ∧ ds = [.str x, .int (j : Int)] ∧ Q (callP p b sl x j).1 (proO T a q p b (callP p b sl x j).2)
theorem ok_P_call (T : Top K mg) (TB : LamX.TabB base mg T.cS T.PS) : FnOk P w K mg base (L2.CX P w) 5 T.a_P_call T.d_P_call ["self", "name", "i"] (spO K 2 (tCallP T)) := by
  refine fnO T.F_P_call sc_P_call rfl fun c A o s H E hr => ?_
  have nd := sc_P_call.nd
  have hu := hr.units
  have hu1 := hu_of hr
  obtain ⟨_, _, _, _, _, hlo, llo⟩ := T.g_lo
  refine ⟨_, _, (svs_cons (sv_set 3 nd (ev_methO 0 (ok_P_slot T) (hr.mono (by decide)) T.c_P T.h_P_slot T.B_P_slot (ea_cons (ev_name 1) (ea_cons (ev_name 2) ea_nil))))
      (svs_cons (sv_if (et_isNotN (ev_name 3)) (svs_one (sv_ret (ev_name 3))) svs_nil)
      (svs_cons (sv_set 4 nd (ev_call (ok_use_in T) (hr.mono (by decide)) T.m_use_in T.F_use_in.kp T.B_use_in (ea_cons (ev_methO 0 (ok_P_lib_there T) (hr.mono (by decide)) T.c_P T.h_P_lib_there T.B_P_lib_there (ea_cons (ev_name 1) ea_nil)) (ea_cons (ev_name 2) ea_nil))))
      (svs_cons (sv_set 5 nd (ev_call (ok_answer_along T TB) (hr.mono (by decide)) T.m_answer_along T.F_answer_along.kp T.B_answer_along (ea_cons (ev_fldO 0 T.c_P T.n_P_program) (ea_cons (ev_methO 0 (ok_P_looks T) (hr.mono (by decide)) T.c_P T.h_P_looks T.B_P_looks (ea_cons (ev_name 1) ea_nil)) (ea_cons (ev_name 4) ea_nil)))))
      (svs_cons (sv_if (et_ne hu (ev_name 5) (ev_one1 hlo llo)) (svs_one (sv_slotPut 0 1 2 5 hu1 T.c_P T.n_P_slots)) svs_nil)
      (svs_one (sv_ret (ev_name 5)))))))), fun ob ds P' hl hT => ?_⟩
  obtain ⟨a, q, p, b, sl, x, j, st, ⟨l, i, u, hi, rfl, ht, hj⟩, rfl, rfl, qq⟩ := hT
  simp only [proO]
  walk_at "tr"
  have hx : okS l.own := okOwn st.pk (there_own st.pk _ _ ht)
  have hno : ∀ {m : Str}, m ≠ "_program" → m ≠ "_layout" → m ≠ "_base" → m ≠ "_slots" → (proFs T.C_L p b).lookup m = none := fun h1 h2 h3 h4 => fP_no h1 h2 h3 h4
  refine ⟨hno (by decide +kernel) (by decide +kernel) (by decide +kernel) (by decide +kernel), trivial, a, q, p, b, sl, l, i, u, j, st, hi, ht, hj, rfl, rfl, ?_⟩
  refine Tr.Later.now ?_
  walk_at "tr"
  have hus := (st.pk.libs.1 l (List.mem_of_getElem? hi)).1.uses
  have ueq := useOf_eq st.pk hi hj
  unfold callP at qq
  cases g : getP sl (kSI l.own j) with
  | some d =>
    rw [g] at qq
    have ha : Ans d := st.kp.an _ (get_mem g)
    cases ha
    all_goals
      simp only [Option.getD_some, Tr.isNone, Bool.not_false, if_true]
      refine Tr.Later.now ?_
      walk_at "tr"
      first | exact ⟨rfl, trivial, qq⟩ | exact ⟨trivial, qq⟩ | exact ⟨rfl, qq⟩ | exact qq
  | none =>
    rw [g] at qq
    simp only [Option.getD_none, Tr.isNone, Bool.not_true, Bool.false_eq_true, if_false]
    refine Tr.Later.now ?_
    walk_at "tr"
    refine Tr.Later.now ?_
    walk_at "tr"
    refine ⟨hno (by decide +kernel) (by decide +kernel) (by decide +kernel) (by decide +kernel), trivial, a, q, p, b, sl, l, i, st, hi, ht, rfl, rfl, l, j, u, hj, rfl, ?_⟩
    refine Tr.Later.now ?_
    walk_at "tr"
    have lo := looks_own st.pk st.bk (x := l.own)
    refine ⟨_, fP_program _ p b, hno (by decide +kernel) (by decide +kernel) (by decide +kernel) (by decide +kernel), trivial, a, q, p, b, sl, l, i, st, hi, ht, rfl, rfl, p, looksOf p b l.own, u, st.pk, lo.1, by omega, hus.1 u (List.mem_of_getElem? hj), rfl, ?_⟩
    rw [ueq] at qq
    have ha : Ans (ansOf p (looksOf p b l.own) u) := ans_ok st.pk lo.1
    generalize ansOf p (looksOf p b l.own) u = ans at ha qq
    refine Tr.Later.now ?_
    walk_at "tr"
    refine ⟨ha.shaped, lost_shaped, ?_⟩
    rw [eqv_lost ha, Bool.not_not]
    cases kd : keepD ans with
    | true =>
      rw [kd, if_pos rfl] at qq
      simp only [if_true]
      refine Tr.Later.now ?_
      walk_at "tr"
      refine ⟨fP_slots _ p b, sl, l.own, (j : Int), ans, rfl, rfl, rfl, rfl, st.kp.ln, ?_⟩
      refine Tr.Later.now ?_
      walk_at "tr"
      first | exact ⟨rfl, trivial, qq⟩ | exact ⟨trivial, qq⟩ | exact ⟨rfl, qq⟩ | exact qq
    | false =>
      rw [kd, if_neg Bool.false_ne_true] at qq
      simp only [Bool.false_eq_true, if_false]
      refine Tr.Later.now ?_
      walk_at "tr"
      refine Tr.Later.now ?_
      walk_at "tr"
      first | exact ⟨rfl, trivial, qq⟩ | exact ⟨trivial, qq⟩ | exact ⟨rfl, qq⟩ | exact qq
/-! ### do -/
inductive Stp
  | op (k : Nat)
  | cl (k : Nat)
  | ca (x : Str) (j : Nat)
def Stp.d : Stp → PyData
  | .op k => .tuple [.str "open", .int (k : Int)]
  | .cl k => .tuple [.str "close", .int (k : Int)]
  | .ca x j => .tuple [.str "call", .str x, .int (j : Int)]
def Stp.Fit (p : Plot) (b : Bs) : Stp → Prop
  | .op k => k < p.doors.length
  | .cl k => k < p.doors.length
  | .ca x j => CallOk p b x j
def told1 (x : Str) : PyData := .tuple [.str x]
def doP (p : Plot) (b : Bs) (sl : TD) : Stp → PyData × Bs × TD
  | .op k => (told1 (openP p b k).1, (openP p b k).2, sl)
  | .cl k => (told1 (closeP p b sl k).1, (closeP p b sl k).2.1, (closeP p b sl k).2.2)
  | .ca x j => ((callP p b sl x j).1, b, (callP p b sl x j).2)
def tDo (T : Top K mg) : TSo := fun o ds Q => ∃ (a q : Addr) (p : Plot) (b : Bs) (sl : TD) (t : Stp), Stand p b sl ∧ t.Fit p b ∧ o = proO T a q p b sl ∧ ds = [t.d] ∧ ∀ r, Q (doP p b sl t).1 (proO T a r p (doP p b sl t).2.1 (doP p b sl t).2.2)
theorem ok_P_do (T : Top K mg) (TB : LamX.TabB base mg T.cS T.PS) : FnOk P w K mg base (L2.CX P w) 6 T.a_P_do T.d_P_do ["self", "step"] (spO K 1 (tDo T)) := by
  refine fnO T.F_P_do sc_P_do rfl fun c A o s H E hr => ?_
  have nd := sc_P_do.nd
  have hu := hr.units
  refine ⟨_, _, (svs_cons (sv_if (et_eq hu (ev_ix (ev_name 1) ev_int) ev_str) (svs_one (sv_ret (ev_methO 0 (ok_P_open_door T) (hr.mono (by decide)) T.c_P T.h_P_open_door T.B_P_open_door (ea_cons (ev_ix (ev_name 1) ev_int) ea_nil)))) svs_nil)
      (svs_cons (sv_if (et_eq hu (ev_ix (ev_name 1) ev_int) ev_str) (svs_one (sv_ret (ev_methO 0 (ok_P_close_door T) (hr.mono (by decide)) T.c_P T.h_P_close_door T.B_P_close_door (ea_cons (ev_ix (ev_name 1) ev_int) ea_nil)))) svs_nil)
      (svs_cons (sv_asg (ev_name 1) (gv_seq rfl (gvs_cons (gv_name 2 nd) (gvs_cons (gv_name 3 nd) (gvs_cons (gv_name 4 nd) gvs_nil)))))
      (svs_one (sv_ret (ev_methO 0 (ok_P_call T TB) (hr.mono (by decide)) T.c_P T.h_P_call T.B_P_call (ea_cons (ev_name 3) (ea_cons (ev_name 4) ea_nil)))))))), fun ob ds P' hl hT => ?_⟩
  obtain ⟨a, q, p, b, sl, t, st, hf, rfl, rfl, qq⟩ := hT
  have so := shaped_str (okS_word (x := "open") (by decide +kernel))
  have sc := shaped_str (okS_word (x := "close") (by decide +kernel))
  have sa := shaped_str (okS_word (x := "call") (by decide +kernel))
  have hno : ∀ {m : Str}, m ≠ "_program" → m ≠ "_layout" → m ≠ "_base" → m ≠ "_slots" → (proFs T.C_L p b).lookup m = none := fun h1 h2 h3 h4 => fP_no h1 h2 h3 h4
  simp only [proO]
  cases t with
  | op k =>
    simp only [Stp.d]
    walk_at "tr"
    refine ⟨so, so, ?_⟩
    rw [eqv_str, decide_eq_true rfl]
    walk_at "tr"
    refine Tr.Later.now ?_
    walk_at "tr"
    refine ⟨hno (by decide +kernel) (by decide +kernel) (by decide +kernel) (by decide +kernel), trivial, a, q, p, b, sl, k, st, hf, rfl, rfl, ?_⟩
    have q1 := qq q
    first | exact ⟨rfl, trivial, q1⟩ | exact ⟨trivial, q1⟩ | exact ⟨rfl, q1⟩ | exact q1
  | cl k =>
    simp only [Stp.d]
    walk_at "tr"
    refine ⟨sc, so, ?_⟩
    rw [eqv_str, decide_eq_false (by decide +kernel)]
    walk_at "tr"
    refine Tr.Later.now ?_
    walk_at "tr"
    refine Tr.Later.now ?_
    walk_at "tr"
    refine ⟨sc, sc, ?_⟩
    rw [eqv_str, decide_eq_true rfl]
    walk_at "tr"
    refine Tr.Later.now ?_
    walk_at "tr"
    refine ⟨hno (by decide +kernel) (by decide +kernel) (by decide +kernel) (by decide +kernel), trivial, a, q, p, b, sl, k, st, hf, rfl, rfl, fun r => ?_⟩
    have q1 := qq r
    first | exact ⟨rfl, trivial, q1⟩ | exact ⟨trivial, q1⟩ | exact ⟨rfl, q1⟩ | exact q1
  | ca x j =>
    simp only [Stp.d]
    walk_at "tr"
    refine ⟨sa, so, ?_⟩
    rw [eqv_str, decide_eq_false (by decide +kernel)]
    walk_at "tr"
    refine Tr.Later.now ?_
    walk_at "tr"
    refine Tr.Later.now ?_
    walk_at "tr"
    refine ⟨sa, sc, ?_⟩
    rw [eqv_str, decide_eq_false (by decide +kernel)]
    walk_at "tr"
    refine Tr.Later.now ?_
    walk_at "tr"
    refine Tr.Later.now ?_
    walk_at "tr"
    refine ⟨rfl, ?_⟩
    refine Tr.Later.now ?_
    walk_at "tr"
    refine ⟨hno (by decide +kernel) (by decide +kernel) (by decide +kernel) (by decide +kernel), trivial, a, q, p, b, sl, x, j, st, hf, rfl, rfl, ?_⟩
    have q1 := qq q
    first | exact ⟨rfl, trivial, q1⟩ | exact ⟨trivial, q1⟩ | exact ⟨rfl, q1⟩ | exact q1
end
end K12
set_option Elab.async false
set_option linter.all false
set_option maxRecDepth 100000
set_option maxHeartbeats 4000000
namespace K12
open PySem PySem.Spec PyProof.Rows L2 Tr
variable [Tabbed]
local macro_rules | `(tactic| walk_at "tr") => `(tactic| simp only [wOwn, wRet, wRetN, wExpr, wAsg, wSet, wSetN, wPar, wParV0, wParN0, wAugI, wgNil, wgCons, wCall, wCall0, wCallM, wCallN, wIxO, wFn, wFn1, wFnN, wTuple1, wAppend, wPopAt, wSetO, wNeO, wIsN, wTup, wLst, wYes, wRep, wSliceL, wSliceT, wRev, wRevT, wIsLT, wIs1, wNeg, wChainI, wMinT, wCallRev, wTru, wInD, wSortedD, wSortedK, wNotN, wAugT, wSetDc, wDput, wNameD, wSlotGet, wSlotPut, wSetLeft, wItems, wFld, wFldO, wSetF, wSetFD, wMethO, wCallO, wMake, wStill, wParB, wSetB, wStar, wSortLam, insAt, objAt, ownAt, asInt, asNat, asList, asTuple, someOf, seqItems, at0, at1, at2, at3, wIf, wB, wOp, wOpN, wName, wLook, wN, wC, wAnd, wOr, wNot, wAndV, wOrV, wNotV, wSeq, wNext, wIfS, wNil, wCons, wPart, wgSeq, gvName, wTurn, wipeE, gI, gI0, gEq, gNe, gLen, gIx, gInt, gAbs, gMin2, gList, gTup1, gMulS, gAll, gCatL, gCatT, gRepT, gRepP, Tr.isNone, Tr.isLT, Tr.top, Tr.isTup, Tr.isInt, Tr.isBool, startE, startM, startO, putT, List.map_cons, List.map_nil, List.length_cons, List.length_nil, List.cons_append, List.nil_append, List.getElem?_cons_zero, List.getElem?_cons_succ, List.set_cons_zero, List.set_cons_succ, List.replicate, List.length_map, if_true, if_false, Bool.false_eq_true, reduceIte, List.mem_cons, List.not_mem_nil, or_false, forall_eq, forall_eq_or_imp, false_implies, implies_true, true_and, and_true, Bool.not_true, Bool.not_false, Option.bind_some, Option.map_some, Option.map_none, Int.reduceLT, Int.reduceLE, Int.reduceToNat, Int.toNat_zero, Int.toNat_one, Int.toNat_natCast, Nat.reduceAdd, Nat.reduceSub, Nat.reduceLT, decide_true, List.set, Int.add_zero, Int.zero_add])
section
variable {P : Program} {w : World} {K : PySem.W.Frag} {mg : Str → Option Value} {base : Heap}
/-! ### what one sees -/
theorem rising_pw : ∀ (l : List Str) (p : Str), risingS p l = true → (p :: l).Pairwise (fun a b => a.cps.toList ≤ b.cps.toList)
  | [], p, _ => List.pairwise_singleton _ _
  | x :: r, p, h => by
    have h' : (!ltCps x.cps.toList p.cps.toList && risingS x r) = true := h
    rw [Bool.and_eq_true] at h'
    have ih := rising_pw r x h'.2
    have h1 : p.cps.toList ≤ x.cps.toList := by
      have h2 := h'.1
      rw [ltCps_eq] at h2
      intro z
      rw [decide_eq_true z] at h2
      cases h2
    refine List.pairwise_cons.mpr ⟨fun y hy => ?_, ih⟩
    rcases List.mem_cons.mp hy with rfl | hy
    · exact h1
    · exact List.le_trans h1 ((List.pairwise_cons.mp ih).1 y hy)
theorem sorted_pw {l : List Str} (h : sortedS l = true) : l.Pairwise (fun a b => a.cps.toList ≤ b.cps.toList) := by
  cases l with
  | nil => exact .nil
  | cons x r => exact rising_pw r x h
theorem sorted_uniq {xs ys zs : List Str} (h1 : xs.Perm zs) (h2 : ys.Perm zs) (s1 : sortedS xs = true) (s2 : sortedS ys = true) : xs = ys :=
  List.Perm.eq_of_pairwise (fun a b _ _ h h' => PySem.W.str_of_cps (List.le_antisymm h h')) (sorted_pw s1) (sorted_pw s2) (h1.trans h2.symm)
def tView (T : Top K mg) (f : Plot → Bs → PyData) : TSo := fun o ds Q => ∃ (a q : Addr) (p : Plot) (b : Bs) (sl : TD), Stand p b sl ∧ o = proO T a q p b sl ∧ ds = [] ∧ Q (f p b) o
def natsL (ns : List Nat) : PyData := .list (ns.map intT)
theorem ok_P_counts (T : Top K mg) : FnOk P w K mg base (L2.CX P w) 1 T.a_P_counts T.d_P_counts ["self"] (spO K 0 (tView T fun _ b => natsL b.counts)) := by
  refine fnO T.F_P_counts sc_P_counts rfl fun c A o s H E hr => ?_
  refine ⟨_, _, (svs_one (sv_ret (en_list T.b_list (ea_cons (ev_ix (ev_fldO 0 T.c_P T.n_P_base) ev_int) ea_nil)).ev)), fun ob ds P' hl hT => ?_⟩
  obtain ⟨a, q, p, b, sl, st, rfl, rfl, qq⟩ := hT
  simp only [proO]
  walk_at "tr"
  refine ⟨_, fP_base _ p b, ?_⟩
  simp only [Bs.d, natsT]
  walk_at "tr"
  first | exact ⟨rfl, trivial, qq⟩ | exact ⟨trivial, qq⟩ | exact ⟨rfl, qq⟩ | exact qq
theorem ok_P_opened (T : Top K mg) : FnOk P w K mg base (L2.CX P w) 1 T.a_P_opened T.d_P_opened ["self"] (spO K 0 (tView T fun _ b => natsL b.order)) := by
  refine fnO T.F_P_opened sc_P_opened rfl fun c A o s H E hr => ?_
  refine ⟨_, _, (svs_one (sv_ret (en_list T.b_list (ea_cons (ev_ix (ev_fldO 0 T.c_P T.n_P_base) ev_int) ea_nil)).ev)), fun ob ds P' hl hT => ?_⟩
  obtain ⟨a, q, p, b, sl, st, rfl, rfl, qq⟩ := hT
  simp only [proO]
  walk_at "tr"
  refine ⟨_, fP_base _ p b, ?_⟩
  simp only [Bs.d, natsT]
  walk_at "tr"
  first | exact ⟨rfl, trivial, qq⟩ | exact ⟨trivial, qq⟩ | exact ⟨rfl, qq⟩ | exact qq
theorem ok_P_public (T : Top K mg) : FnOk P w K mg base (L2.CX P w) 1 T.a_P_public T.d_P_public ["self"] (spO K 0 (tView T fun _ b => textsD b.pub)) := by
  refine fnO T.F_P_public sc_P_public rfl fun c A o s H E hr => ?_
  refine ⟨_, _, (svs_one (sv_ret (en_list T.b_list (ea_cons (ev_ix (ev_fldO 0 T.c_P T.n_P_base) ev_int) ea_nil)).ev)), fun ob ds P' hl hT => ?_⟩
  obtain ⟨a, q, p, b, sl, st, rfl, rfl, qq⟩ := hT
  simp only [proO]
  walk_at "tr"
  refine ⟨_, fP_base _ p b, ?_⟩
  simp only [Bs.d, textsT]
  walk_at "tr"
  first | exact ⟨rfl, trivial, qq⟩ | exact ⟨trivial, qq⟩ | exact ⟨rfl, qq⟩ | exact qq
theorem ok_P_deep (T : Top K mg) : FnOk P w K mg base (L2.CX P w) 1 T.a_P_deep T.d_P_deep ["self"] (spO K 0 (tView T fun _ b => textsD b.deep)) := by
  refine fnO T.F_P_deep sc_P_deep rfl fun c A o s H E hr => ?_
  refine ⟨_, _, (svs_one (sv_ret (en_list T.b_list (ea_cons (ev_ix (ev_fldO 0 T.c_P T.n_P_base) ev_int) ea_nil)).ev)), fun ob ds P' hl hT => ?_⟩
  obtain ⟨a, q, p, b, sl, st, rfl, rfl, qq⟩ := hT
  simp only [proO]
  walk_at "tr"
  refine ⟨_, fP_base _ p b, ?_⟩
  simp only [Bs.d, textsT]
  walk_at "tr"
  first | exact ⟨rfl, trivial, qq⟩ | exact ⟨trivial, qq⟩ | exact ⟨rfl, qq⟩ | exact qq
def tThereP (T : Top K mg) : TSo := fun o ds Q => ∃ (a q : Addr) (p : Plot) (b : Bs) (sl : TD), Stand p b sl ∧ o = proO T a q p b sl ∧ ds = [] ∧ ∀ ys : List Str, ys.Perm (thereOf p b.order) → sortedS ys = true → Q (textsD ys) o
theorem ok_P_there (T : Top K mg) : FnOk P w K mg base (L2.CX P w) 2 T.a_P_there T.d_P_there ["self"] (spO K 0 (tThereP T)) := by
  refine fnO T.F_P_there sc_P_there rfl fun c A o s H E hr => ?_
  refine ⟨_, _, (svs_one (sv_ret (en_sortedK rfl T.b_sorted (ev_call (ok_names_there T) (hr.mono (by decide)) T.m_names_there T.F_names_there.kp T.B_names_there (ea_cons (ev_fldO 0 T.c_P T.n_P_layout) (ea_cons (ev_ix (ev_fldO 0 T.c_P T.n_P_base) ev_int) ea_nil)))).ev)), fun ob ds P' hl hT => ?_⟩
  obtain ⟨a, q, p, b, sl, st, rfl, rfl, qq⟩ := hT
  have hol := st.bk.olen st.pk
  have htl := there_len st.pk b.order
  simp only [proO]
  walk_at "tr"
  refine ⟨_, fP_layout _ p b, _, fP_base _ p b, ?_⟩
  simp only [Bs.d]
  walk_at "tr"
  refine ⟨p, b.order, st.pk, st.bk.ol, by omega, rfl, _, rfl, by simp [ofKeys]; omega, fun ys h1 h2 => ?_⟩
  have q1 := qq ys (by rw [keys_of] at h1; exact h1) h2
  first | exact ⟨rfl, trivial, q1⟩ | exact ⟨trivial, q1⟩ | exact ⟨rfl, q1⟩ | exact q1
def sortT (sl : TD) : List PyData := (sl.map tripleT).mergeSort (PySem.W.dataLe false id)
def standD (b : Bs) (sl : TD) : PyData := .tuple [b.d, .tuple (sortT sl)]
theorem triple_of {sl : TD} (h : Kept sl) {d : PyData} (hd : d ∈ sl.map tripleT) : ∃ x n a, d = .tuple [.str x, .int n, a] ∧ Ans a ∧ (kSI x n, a) ∈ sl := by
  obtain ⟨e, he, rfl⟩ := List.mem_map.mp hd
  obtain ⟨x, n, ek⟩ := h.ks e he
  obtain ⟨k, a⟩ := e
  replace ek : k = kSI x n := ek
  subst ek
  exact ⟨x, n, a, rfl, h.an _ he, he⟩
theorem nd_of_all {ds : List PyData} (h : ∀ d ∈ ds, nd d = true) : ndAll ds = true := by
  induction ds with
  | nil => rfl
  | cons d ds ih =>
    show (nd d && ndAll ds) = true
    rw [h d List.mem_cons_self, ih fun x hx => h x (List.mem_cons_of_mem _ hx)]
    rfl
theorem ok_P_stand (T : Top K mg) : FnOk P w K mg base (L2.CX P w) 1 T.a_P_stand T.d_P_stand ["self"] (spO K 0 (fun o ds Q => ∃ (a q : Addr) (p : Plot) (b : Bs) (sl : TD), Stand p b sl ∧ o = proO T a q p b sl ∧ ds = [] ∧ Q (standD b sl) o)) := by
  refine fnO T.F_P_stand sc_P_stand rfl fun c A o s H E hr => ?_
  have nd := sc_P_stand.nd
  have hu := hr.units
  refine ⟨_, _, (svs_one (sv_ret (ev_tup (ea_cons (ev_fldO 0 T.c_P T.n_P_base) (ea_cons (ev_tuple1 T.b_tuple (en_sortedD hu T.b_sorted (en_items (x := "name") (y := "i") (z := "answer") 0 2 3 1 rfl nd T.c_P T.n_P_slots (blkOk_by (N := N_P_stand) (sc := defScope s_P_stand) (by decide +kernel)) (fun _ _ _ _ _ => pg_tup rfl (pgs_cons (pg_tup rfl (pgs_cons (GV.pg (gv_name 2 nd)) (pgs_cons (GV.pg (gv_name 3 nd)) pgs_nil))) (pgs_cons (GV.pg (gv_name 1 nd)) pgs_nil))) (fun _ _ _ _ _ => EV.pe (ev_tup (ea_cons (ev_name 2) (ea_cons (ev_name 3) (ea_cons (ev_name 1) ea_nil)))))).ev).ev) ea_nil))))), fun ob ds P' hl hT => ?_⟩
  obtain ⟨a, q, p, b, sl, st, rfl, rfl, qq⟩ := hT
  simp only [proO]
  walk_at "tr"
  refine ⟨_, fP_base _ p b, fP_slots _ p b, sl, rfl, st.kp.ln, st.kp.ks, _, rfl, nd_of_all fun d hd => ?_, fun d hd d' hd' => ?_, .inl fun d hd => ?_, ?_, fun d hd => ?_, by rw [sizeLine_eq]; omega, ?_⟩
  · obtain ⟨x, n, a, rfl, ha, _⟩ := triple_of st.kp hd
    cases ha <;> rfl
  · obtain ⟨x, n, a, rfl, ha, _⟩ := triple_of st.kp hd
    obtain ⟨x', n', a', rfl, ha', _⟩ := triple_of st.kp hd'
    cases ha <;> cases ha' <;> rfl
  · obtain ⟨x, n, a, rfl, ha, _⟩ := triple_of st.kp hd
    exact ⟨_, _, rfl⟩
  · have := st.kp.ln
    rw [List.length_map]
    omega
  · obtain ⟨x, n, a, rfl, ha, _⟩ := triple_of st.kp hd
    cases ha
    · show 2 ≤ 60
      omega
    · show 2 ≤ 60
      omega
  · first | exact ⟨rfl, trivial, qq⟩ | exact ⟨trivial, qq⟩ | exact ⟨rfl, qq⟩ | exact qq
/-! ### Process(program) -/
def tPinit (T : Top K mg) : TSo := fun o ds Q => ∃ (a : Addr) (p : Plot), p.Ok ∧ o = .ins a T.C_P [] 0 none ∧ ds = [plotT true p] ∧ ∀ q, Q .none (proO T a q p (firstB p) [])
theorem froz_ok : ∀ (n : Nat) (d : PyData) (R : PyData → Prop), R d → (∃ x, d = .str x) ∨ (∃ b, d = .bool b) → tFroz (n + 1) [d] R := fun n d R h hd => by
  rcases hd with ⟨x, rfl⟩ | ⟨b, rfl⟩
  · exact ⟨_, rfl, .inl ⟨x, rfl, h⟩⟩
  · exact ⟨_, rfl, .inr (.inl ⟨b, rfl, h⟩)⟩
theorem froz_tup (n : Nat) (ds : List PyData) (R : PyData → Prop) (hl : ds.length ≤ 100) (h : ∀ d ∈ ds, ∀ R' : PyData → Prop, R' d → tFroz n [d] R') (q : R (.tuple ds)) : tFroz (n + 1) [.tuple ds] R :=
  ⟨_, rfl, .inr (.inr ⟨true, ds, ds, rfl, hl, rfl, fun i x y hx hy R' hR => by
    rw [hx] at hy
    cases hy
    exact h x (List.mem_of_getElem? hx) R' hR, q⟩)⟩
theorem froz_str (n : Nat) (x : Str) (R : PyData → Prop) (q : R (.str x)) : tFroz (n + 1) [.str x] R := froz_ok n _ R q (.inl ⟨x, rfl⟩)
theorem froz_bool (n : Nat) (x : Bool) (R : PyData → Prop) (q : R (.bool x)) : tFroz (n + 1) [.bool x] R := froz_ok n _ R q (.inr ⟨x, rfl⟩)
theorem froz_plot {p : Plot} (hp : p.Ok) (n : Nat) (R : PyData → Prop) (q : R (plotT true p)) : tFroz (n + 6) [plotT true p] R := by
  have tupS : ∀ (m : Nat) (xs : List Str), xs.length ≤ 100 → ∀ R' : PyData → Prop, R' (.tuple (xs.map .str)) → tFroz (m + 2) [.tuple (xs.map .str)] R' := fun m xs hl R' q' => froz_tup _ _ _ (by rw [List.length_map]; exact hl) (fun d hd R2 q2 => by
    obtain ⟨x, _, rfl⟩ := List.mem_map.mp hd
    exact froz_str _ _ _ q2) q'
  have duo : ∀ (m : Nat) (z : Str × Str) (R' : PyData → Prop), R' (duoT true z) → tFroz (m + 2) [duoT true z] R' := fun m z R' q' => froz_tup _ _ _ (by simp) (fun d hd R2 q2 => by
    simp only [List.mem_cons, List.not_mem_nil, or_false] at hd
    rcases hd with rfl | rfl <;> exact froz_str _ _ _ q2) q'
  refine froz_tup _ _ _ (by simp) (fun d hd R1 q1 => ?_) q
  simp only [List.mem_cons, List.not_mem_nil, or_false] at hd
  rcases hd with rfl | rfl | rfl
  · refine froz_tup _ _ _ (by rw [List.length_map]; have := hp.libs.2.1; omega) (fun d hd R2 q2 => ?_) q1
    obtain ⟨l, hl, rfl⟩ := List.mem_map.mp hd
    have hk := (hp.libs.1 l hl).1
    refine froz_tup _ _ _ (by simp) (fun d hd R3 q3 => ?_) q2
    simp only [List.mem_cons, List.not_mem_nil, or_false] at hd
    rcases hd with rfl | rfl | rfl | rfl
    · exact froz_str _ _ _ q3
    · exact tupS _ _ (by have := hk.needs.2; omega) _ q3
    · refine froz_tup _ _ _ (by rw [List.length_map]; have := hk.defs.2.2; omega) (fun d hd R4 q4 => ?_) q3
      obtain ⟨z, _, rfl⟩ := List.mem_map.mp hd
      exact duo _ _ _ q4
    · refine froz_tup _ _ _ (by rw [List.length_map]; have := hk.uses.2; omega) (fun d hd R4 q4 => ?_) q3
      obtain ⟨z, _, rfl⟩ := List.mem_map.mp hd
      refine froz_tup _ _ _ (by simp) (fun d hd R5 q5 => ?_) q4
      simp only [List.mem_cons, List.not_mem_nil, or_false] at hd
      rcases hd with rfl | rfl | rfl
      · exact froz_str _ _ _ q5
      · exact froz_str _ _ _ q5
      · exact froz_bool _ _ _ q5
  · exact tupS _ _ (by have := hp.early.2; omega) _ q1
  · refine froz_tup _ _ _ (by rw [List.length_map]; have := hp.doors.2; omega) (fun d hd R2 q2 => ?_) q1
    obtain ⟨z, _, rfl⟩ := List.mem_map.mp hd
    exact duo _ _ _ q2
theorem pne01 : (Str.ofString "_program" = Str.ofString "_layout") = False := eq_false (by decide +kernel)
theorem pne02 : (Str.ofString "_program" = Str.ofString "_base") = False := eq_false (by decide +kernel)
theorem pne03 : (Str.ofString "_program" = Str.ofString "_slots") = False := eq_false (by decide +kernel)
theorem pne10 : (Str.ofString "_layout" = Str.ofString "_program") = False := eq_false (by decide +kernel)
theorem pne12 : (Str.ofString "_layout" = Str.ofString "_base") = False := eq_false (by decide +kernel)
theorem pne13 : (Str.ofString "_layout" = Str.ofString "_slots") = False := eq_false (by decide +kernel)
theorem pne20 : (Str.ofString "_base" = Str.ofString "_program") = False := eq_false (by decide +kernel)
theorem pne21 : (Str.ofString "_base" = Str.ofString "_layout") = False := eq_false (by decide +kernel)
theorem pne23 : (Str.ofString "_base" = Str.ofString "_slots") = False := eq_false (by decide +kernel)
theorem pne30 : (Str.ofString "_slots" = Str.ofString "_program") = False := eq_false (by decide +kernel)
theorem pne31 : (Str.ofString "_slots" = Str.ofString "_layout") = False := eq_false (by decide +kernel)
theorem pne32 : (Str.ofString "_slots" = Str.ofString "_base") = False := eq_false (by decide +kernel)
theorem vals_of : ∀ (fs : List (Str × PyData)), valsOf (fs.map fun e => (e.1, Fv.val e.2)) = some fs
  | [] => rfl
  | (f, d) :: r => by
    show (valsOf (r.map fun e => (e.1, Fv.val e.2))).map ((f, d) :: ·) = _
    rw [vals_of r]
    rfl
theorem ok_P_init (T : Top K mg) : FnOk P w K mg base (L2.CX P w) 11 T.a_P_init T.d_P_init ["self", "program"] (spO K 1 (tPinit T)) := by
  refine fnO T.F_P_init sc_P_init rfl fun c A o s H E hr => ?_
  refine ⟨_, _, (svs_cons (sv_setF 0 T.c_P T.n_P_program (ev_call (ok_frozen_at T 9) (hr.mono (by decide)) T.m_frozen T.F_frozen.kp T.B_frozen (ea_cons (ev_name 1) ea_nil)))
      (svs_cons (sv_setF 0 T.c_P T.n_P_layout (eb_make (dvs := [.non, .non]) (dd := [.none, .none]) T.mk_L (ok_L_init T) (hr.mono (by decide)) T.m_L T.B_L_init (.cons rfl (.cons rfl .nil)) (fun _ => .cons .non (.cons .non .nil)) (ea_cons (ev_fldO 0 T.c_P T.n_P_program) ea_nil)).ev)
      (svs_cons (sv_setF 0 T.c_P T.n_P_base (ev_call (ok_first_base T) (hr.mono (by decide)) T.m_first_base T.F_first_base.kp T.B_first_base (ea_cons (ev_fldO 0 T.c_P T.n_P_layout) ea_nil)))
      (svs_one (sv_setFD 0 T.c_P T.n_P_slots))))), fun ob ds P' hl hT => ?_⟩
  obtain ⟨a, p, hp, rfl, rfl, qq⟩ := hT
  walk_at "tr"
  refine froz_plot hp 3 _ ?_
  refine Tr.Later.now ?_
  walk_at "tr"
  refine ⟨_, look_eq, fun x => ⟨x, p, hp, rfl, rfl, rfl, ?_⟩⟩
  refine ⟨_, _, _, _, layFs p, rfl, vals_of _, ?_⟩
  simp only [pne01, pne02, pne03, pne10, pne12, pne13, pne20, pne21, pne23, pne30, pne31, pne32, if_false]
  refine Tr.Later.now ?_
  walk_at "tr"
  refine ⟨_, (look_ne (by decide +kernel)).trans look_eq, p, hp, rfl, ?_⟩
  simp only [pne01, pne02, pne03, pne10, pne12, pne13, pne20, pne21, pne23, pne30, pne31, pne32, if_false]
  refine Tr.Later.now ?_
  walk_at "tr"
  refine ⟨?_, by decide +kernel, fun q => ?_⟩
  · intro e he hne
    simp only [List.mem_cons, List.not_mem_nil, or_false] at he
    rcases he with rfl | rfl | rfl <;> exact fun z => nomatch z
  · simp only [pne01, pne02, pne03, pne10, pne12, pne13, pne20, pne21, pne23, pne30, pne31, pne32, if_false]
    have q1 := qq q
    first | exact ⟨rfl, trivial, q1⟩ | exact ⟨trivial, q1⟩ | exact ⟨rfl, q1⟩ | exact q1
end
end K12
set_option Elab.async false
set_option linter.all false
set_option maxRecDepth 100000
set_option maxHeartbeats 4000000
namespace K12
open PySem PySem.Spec PyProof.Rows L2 Tr
variable [Tabbed]
local macro_rules | `(tactic| walk_at "tr") => `(tactic| simp only [wOwn, wRet, wRetN, wExpr, wAsg, wSet, wSetN, wPar, wParV0, wParN0, wAugI, wgNil, wgCons, wCall, wCall0, wCallM, wCallN, wIxO, wFn, wFn1, wFnN, wTuple1, wAppend, wPopAt, wSetO, wNeO, wIsN, wTup, wLst, wYes, wRep, wSliceL, wSliceT, wRev, wRevT, wIsLT, wIs1, wNeg, wChainI, wMinT, wCallRev, wTru, wInD, wSortedD, wSortedK, wNotN, wAugT, wSetDc, wDput, wNameD, wSlotGet, wSlotPut, wSetLeft, wItems, wFld, wFldO, wSetF, wSetFD, wMethO, wCallO, wMake, wStill, wParB, wSetB, wStar, wSortLam, insAt, objAt, ownAt, asInt, asNat, asList, asTuple, someOf, seqItems, at0, at1, at2, at3, wIf, wB, wOp, wOpN, wName, wLook, wN, wC, wAnd, wOr, wNot, wAndV, wOrV, wNotV, wSeq, wNext, wIfS, wNil, wCons, wPart, wgSeq, gvName, wTurn, wipeE, gI, gI0, gEq, gNe, gLen, gIx, gInt, gAbs, gMin2, gList, gTup1, gMulS, gAll, gCatL, gCatT, gRepT, gRepP, Tr.isNone, Tr.isLT, Tr.top, Tr.isTup, Tr.isInt, Tr.isBool, startE, startM, startO, putT, List.map_cons, List.map_nil, List.length_cons, List.length_nil, List.cons_append, List.nil_append, List.getElem?_cons_zero, List.getElem?_cons_succ, List.set_cons_zero, List.set_cons_succ, List.replicate, List.length_map, if_true, if_false, Bool.false_eq_true, reduceIte, List.mem_cons, List.not_mem_nil, or_false, forall_eq, forall_eq_or_imp, false_implies, implies_true, true_and, and_true, Bool.not_true, Bool.not_false, Option.bind_some, Option.map_some, Option.map_none, Int.reduceLT, Int.reduceLE, Int.reduceToNat, Int.toNat_zero, Int.toNat_one, Int.toNat_natCast, Nat.reduceAdd, Nat.reduceSub, Nat.reduceLT, decide_true, List.set, Int.add_zero, Int.zero_add])
section
variable {P : Program} {w : World} {K : PySem.W.Frag} {mg : Str → Option Value} {base : Heap}
/-! ### a drawn step -/
def Stp.Of (p : Plot) : Stp → Prop
  | .op k => k < p.doors.length
  | .cl k => k < p.doors.length
  | .ca x j => ∃ (l : Lib) (i : Nat) (u : (Str × Str) × Bool), p.libs[i]? = some l ∧ l.own = x ∧ l.uses[j]? = some u
def callsOf (ls : List Lib) : List Stp := ls.flatMap fun l => (List.range l.uses.length).map fun j => .ca l.own j
def tStep : TSm := fun cs ds Q => ∃ (n : Nat) (p : Plot), BoxOk n cs ∧ n < 900000 ∧ p.Ok ∧ ds = [plotT true p] ∧ ∀ (t : Stp) cs', t.Of p → BoxOk (n + 3) cs' → Q t.d cs'
theorem calls_snoc (ls : List Lib) (l : Lib) : callsOf (ls ++ [l]) = callsOf ls ++ (List.range l.uses.length).map fun j => .ca l.own j := by simp [callsOf]
theorem calls_len {p : Plot} (hp : p.Ok) : ∀ k, (callsOf (p.libs.take k)).length ≤ 3 * k
  | 0 => by simp [callsOf]
  | k + 1 => by
    have ih := calls_len hp k
    cases e : p.libs[k]? with
    | none =>
      have h0 := List.getElem?_eq_none_iff.mp e
      rw [List.take_of_length_le h0] at ih
      rw [List.take_of_length_le (by omega)]
      omega
    | some l =>
      rw [take_one e, calls_snoc, List.length_append, List.length_map, List.length_range]
      have := (hp.libs.1 l (List.mem_of_getElem? e)).1.uses.2
      omega
theorem calls_of {p : Plot} {t : Stp} (h : t ∈ callsOf p.libs) : t.Of p := by
  obtain ⟨l, hl, h⟩ := List.mem_flatMap.mp h
  obtain ⟨j, hj, rfl⟩ := List.mem_map.mp h
  obtain ⟨i, hi⟩ := List.mem_iff_getElem?.mp hl
  exact ⟨l, i, _, hi, rfl, List.getElem?_eq_getElem (List.mem_range.mp hj)⟩
theorem ok_step (T : Top K mg) : FnOk P w K mg base (L2.CX P w) 3 T.a_step T.d_step ["_law_box_here", "_law_plot"] (spM K 1 tStep) := by
  refine fn_mut T.F_step sc_step rfl fun c A o s H E hr => ?_
  have nd := sc_step.nd
  have hu := hr.units
  refine ⟨_, _, (svs_cons (sv_set 2 nd (en_lst ea_nil).ev)
      (svs_cons (sv_for (ev_ix (ev_name 1) ev_int) (gv_name 3 nd) (svs_one (sv_set 2 nd (en_catL (ev_name 2) (en_lcR (te := tTup (tCons (tC (.str "call")) (tCons (tOp (rIx K) (tVar 3) (tC (.int 0))) (tCons (tVar 4) tNil)))) [("_law_spot", 4)] T.b_range rfl nd (ev_len T.b_len (ev_ix (ev_name 3) ev_int).er) (blkOk_by (N := N_step) (sc := defScope s_step) (by decide +kernel)) (fun _ _ _ _ _ => (gv_name 4 nd)) (fun _ _ _ _ _ => ets_nil) (fun _ _ _ _ _ => (ev_tup (ea_cons ev_str (ea_cons (ev_ix (ev_name 3) ev_int) (ea_cons (ev_name 4) ea_nil))))) (by decide)).ev).ev)) PassesOwn.never rfl)
      (svs_cons (sv_par 5 6 rfl nd (ev_callM 0 (ok_take T) (hr.mono (by decide)) T.m_take T.F_take.kp T.B_take (ea_cons ev_int ea_nil)) (ev_callM 0 (ok_take T) (hr.mono (by decide)) T.m_take T.F_take.kp T.B_take (ea_cons (ev_len T.b_len (ev_ix (ev_name 1) ev_int).er) ea_nil)))
      (svs_cons (sv_if (ew_and (et_gt (ev_name 5) ev_int) (ew_and1 (et_ne hu (ev_name 2) (en_lst ea_nil).ev))).et (svs_one (sv_ret (ev_callM 0 (ok_pick T) (hr.mono (by decide)) T.m_pick T.F_pick.kp T.B_pick (ea_cons (ev_name 2) ea_nil)))) svs_nil)
      (svs_one (sv_ret (ev_tup (ea_cons (ev_callM 0 (ok_pick T) (hr.mono (by decide)) T.m_pick T.F_pick.kp T.B_pick (ea_cons (en_lst (ea_cons ev_str (ea_cons ev_str (ea_cons ev_str ea_nil)))).ev ea_nil)) (ea_cons (ev_name 6) ea_nil))))))))), fun cs ds P' hl hT => ?_⟩
  obtain ⟨n, p, hB, hn, hp, rfl, q⟩ := hT
  simp only [plotT, seqOf, if_true]
  walk_at "tr"
  have hlb := hp.libs.2.1
  have hdl := hp.doors.2
  have hd0 := hp.any
  refine ⟨by omega, ?_⟩
  refine Tr.Later.now ?_
  walk_at "tr"
  show ∃ tupS : Bool, _
  refine ⟨true, ?_⟩
  walk_at "tr"
  have oks : ∀ l ∈ p.libs, okS l.own := fun l hl => okOwn hp (List.mem_map.mpr ⟨l, hl, rfl⟩)
  refine ⟨p.libs.map (libT true), rfl, fun k ρ => ∃ t, ρ = [.own true cs, .val (.tuple [.tuple (p.libs.map (libT true)), .tuple (p.early.map .str), .tuple (p.doors.map (duoT true))]), .val (.list ((callsOf (p.libs.take k)).map Stp.d)), t, .un, .un, .un], ⟨_, rfl⟩, fun k x ρ hx hI => ?_, fun ρ hI => ?_⟩
  · obtain ⟨t, rfl⟩ := hI
    obtain ⟨l, rfl, hk⟩ : ∃ l, x = libT true l ∧ p.libs[k]? = some l := by
      rw [List.getElem?_map] at hx
      cases e : p.libs[k]? with
      | none => rw [e] at hx; cases hx
      | some l => rw [e] at hx; exact ⟨l, (Option.some.inj hx).symm, rfl⟩
    have hl3 := (hp.libs.1 l (List.mem_of_getElem? hk)).1.uses.2
    have hk10 : k < 10 := by
      have := (List.getElem?_eq_some_iff.mp hk).1
      omega
    have hcl := calls_len hp k
    walk_at "tr"
    refine Tr.Later.now ?_
    simp only [libT, seqOf, if_true]
    walk_at "tr"
    refine lcR_each (n := l.uses.length) (es := (List.range l.uses.length).map fun j => (Stp.ca l.own j).d) (fun P' h => ?_) (by simp) (by simp; omega) (fun v hv => by simp only [List.mem_cons, List.not_mem_nil, or_false] at hv; rcases hv with rfl; rfl) (fun j y hj hy P2 h2 => ?_) ?_
    · walk_at "tr"
      exact h
    · have ey : y = (Stp.ca l.own j).d := by
        rw [List.getElem?_map, List.getElem?_range hj] at hy
        exact (Option.some.inj hy).symm
      subst ey
      walk_at "tr"
      exact ⟨by rw [sizeLine_eq]; omega, h2 _ rfl⟩
    · walk_at "tr"
      refine ⟨by simp; rw [sizeLine_eq]; omega, .val (libT true l), ?_⟩
      rw [take_one hk, calls_snoc, List.map_append, List.map_map]
      rfl
  · obtain ⟨t, rfl⟩ := hI
    rw [List.length_map, List.take_length]
    have hcl : (callsOf p.libs).length ≤ 30 := by
      have := calls_len hp p.libs.length
      rw [List.take_length] at this
      omega
    have gd : ∀ t ∈ callsOf p.libs, Good 1 t.d := fun t ht => by
      obtain ⟨l, hl, h⟩ := List.mem_flatMap.mp ht
      obtain ⟨j, hj, rfl⟩ := List.mem_map.mp h
      refine good_tuple fun d hd => ?_
      simp only [List.mem_cons, List.not_mem_nil, or_false] at hd
      rcases hd with rfl | rfl | rfl
      · exact good_str (okS_word (by decide +kernel)).1
      · exact good_str (oks l hl).1
      · exact good_int _
    refine Tr.Later.now ?_
    walk_at "tr"
    refine ⟨n, 5, hB, by omega, rfl, by decide, by decide, fun way cs1 hw hB1 => ?_⟩
    refine ⟨n + 1, p.doors.length, hB1, by omega, rfl, hd0, by omega, fun gate cs2 hg hB2 => ?_⟩
    refine Tr.Later.now ?_
    walk_at "tr"
    have ends : 3 ≤ sizeLine ∧ tPick cs2 [PyData.list [PyData.str "open", PyData.str "open", PyData.str "close"]] fun d cs' => 2 ≤ sizeLine ∧ P' (PyData.tuple [d, PyData.int (gate : Int)]) cs' := by
      refine ⟨by rw [sizeLine_eq]; omega, n + 2, _, false, hB2.mono (by omega), by omega, rfl, by decide, by decide, fun x cs3 hx hB3 => ⟨by rw [sizeLine_eq]; omega, ?_⟩⟩
      simp only [List.mem_cons, List.not_mem_nil, or_false] at hx
      rcases hx with rfl | rfl | rfl
      · exact q (.op gate) cs3 hg (hB3.mono (by omega))
      · exact q (.op gate) cs3 hg (hB3.mono (by omega))
      · exact q (.cl gate) cs3 hg (hB3.mono (by omega))
    cases hw1 : decide ((1 : Int) < (way : Int)) with
    | true =>
      simp only [if_true]
      refine ⟨by omega, (good_list (n := 1) fun d hd => ?_).shaped (by decide), (good_list (n := 0) (ds := []) fun d hd => (by simp at hd)).shaped (by decide), ?_⟩
      · obtain ⟨t, ht, rfl⟩ := List.mem_map.mp hd
        exact gd t ht
      · cases hc : callsOf p.libs with
        | nil =>
          rw [show (!PyData.eqv (.list ([].map Stp.d)) (.list [])) = false by simp [eqv_list, eqvAll_nil]]
          walk_at "tr"
          refine Tr.Later.now ?_
          walk_at "tr"
          refine Tr.Later.now ?_
          walk_at "tr"
          exact ends
        | cons t0 ts =>
          rw [show (!PyData.eqv (.list ((t0 :: ts).map Stp.d)) (.list [])) = true by simp [eqv_list, eqvAll_cn]]
          walk_at "tr"
          refine Tr.Later.now ?_
          walk_at "tr"
          rw [hc] at hcl
          refine ⟨n + 2, (t0 :: ts).map Stp.d, false, hB2.mono (by omega), by omega, rfl, by simp, by simp at hcl ⊢; omega, fun x cs3 hx hB3 => ?_⟩
          obtain ⟨t, ht, rfl⟩ := List.mem_map.mp hx
          exact q t cs3 (calls_of (by rw [hc]; exact ht)) (hB3.mono (by omega))
    | false =>
      simp only [Bool.false_eq_true, if_false]
      refine Tr.Later.now ?_
      walk_at "tr"
      refine Tr.Later.now ?_
      walk_at "tr"
      exact ends
end
end K12
set_option Elab.async false
set_option linter.all false
set_option maxRecDepth 100000
set_option maxHeartbeats 4000000
namespace K12
open PySem PySem.Spec PyProof.Rows L2 Tr
variable [Tabbed]
local macro_rules | `(tactic| walk_at "tr") => `(tactic| simp only [wOwn, wRet, wRetN, wExpr, wAsg, wSet, wSetN, wPar, wParV0, wParN0, wAugI, wgNil, wgCons, wCall, wCall0, wCallM, wCallN, wIxO, wFn, wFn1, wFnN, wTuple1, wAppend, wPopAt, wSetO, wNeO, wIsN, wTup, wLst, wYes, wRep, wSliceL, wSliceT, wRev, wRevT, wIsLT, wIs1, wNeg, wChainI, wMinT, wCallRev, wTru, wInD, wSortedD, wSortedK, wNotN, wAugT, wSetDc, wDput, wNameD, wSlotGet, wSlotPut, wSetLeft, wItems, wFld, wFldO, wSetF, wSetFD, wMethO, wCallO, wMake, wStill, wParB, wSetB, wStar, wSortLam, insAt, objAt, ownAt, asInt, asNat, asList, asTuple, someOf, seqItems, at0, at1, at2, at3, wIf, wB, wOp, wOpN, wName, wLook, wN, wC, wAnd, wOr, wNot, wAndV, wOrV, wNotV, wSeq, wNext, wIfS, wNil, wCons, wPart, wgSeq, gvName, wTurn, wipeE, gI, gI0, gEq, gNe, gLen, gIx, gInt, gAbs, gMin2, gList, gTup1, gMulS, gAll, gCatL, gCatT, gRepT, gRepP, Tr.isNone, Tr.isLT, Tr.top, Tr.isTup, Tr.isInt, Tr.isBool, startE, startM, startO, putT, List.map_cons, List.map_nil, List.length_cons, List.length_nil, List.cons_append, List.nil_append, List.getElem?_cons_zero, List.getElem?_cons_succ, List.set_cons_zero, List.set_cons_succ, List.replicate, List.length_map, if_true, if_false, Bool.false_eq_true, reduceIte, List.mem_cons, List.not_mem_nil, or_false, forall_eq, forall_eq_or_imp, false_implies, implies_true, true_and, and_true, Bool.not_true, Bool.not_false, Option.bind_some, Option.map_some, Option.map_none, Int.reduceLT, Int.reduceLE, Int.reduceToNat, Int.toNat_zero, Int.toNat_one, Int.toNat_natCast, Nat.reduceAdd, Nat.reduceSub, Nat.reduceLT, decide_true, List.set, Int.add_zero, Int.zero_add])
section
variable {P : Program} {w : World} {K : PySem.W.Frag} {mg : Str → Option Value} {base : Heap}
/-! ### what can be told -/
structure Tl (D B : Nat) (d : PyData) : Prop where
  sh : d.showable = true
  nd : d.hasDict = false
  gd : Good D d
  bk : d.bulk ≤ B
  ls : PyData.leavesShort 8 d = true
  as : Asc d.shown
theorem tl_str {D : Nat} {x : Str} (h : okS x) : Tl D 8 (.str x) where
  sh := rfl
  nd := rfl
  gd := good_str h.1
  bk := h.2.1
  ls := by
    show x.cps.toList.all (fun c => decide (c < 16 ^ 8)) = true
    rw [List.all_eq_true]
    intro c hc
    exact decide_eq_true (words_low x h.2.2 c hc)
  as := words_asc x h.2.2
theorem ten_facts : ∀ n : Fin 10, (PyData.int (n.val : Int)).showable = true ∧ PyData.leavesShort 8 (.int (n.val : Int)) = true ∧ ∀ c ∈ (PyData.int (n.val : Int)).shown.cps.toList, c < 1114112 := by decide +kernel
theorem tl_int {D n : Nat} (h : n < 10) : Tl D 0 (.int (n : Int)) where
  sh := (ten_facts ⟨n, h⟩).1
  nd := rfl
  gd := good_int _
  bk := Nat.le_refl _
  ls := (ten_facts ⟨n, h⟩).2.1
  as := (ten_facts ⟨n, h⟩).2.2
theorem tl_all {D B : Nat} : ∀ {ds : List PyData}, (∀ d ∈ ds, Tl D B d) → PyData.showableAll ds = true ∧ PyData.hasDictAll ds = false ∧ PyData.bulkAll ds ≤ (B + 1) * ds.length ∧ PyData.leavesShortAll 8 ds = true ∧ ∀ t ∈ PyData.shownAll ds, Asc t
  | [], _ => ⟨rfl, rfl, Nat.zero_le _, rfl, fun _ h => nomatch h⟩
  | d :: ds, h => by
    obtain ⟨h1, h2, h4, h5, h6⟩ := tl_all fun e he => h e (.tail _ he)
    have g := h d (.head _)
    refine ⟨?_, ?_, ?_, ?_, fun t ht => ?_⟩
    · show (d.showable && PyData.showableAll ds) = true
      rw [g.sh, h1]
      rfl
    · show (d.hasDict || PyData.hasDictAll ds) = false
      rw [g.nd, h2]
      rfl
    · show d.bulk + 1 + PyData.bulkAll ds ≤ (B + 1) * (ds.length + 1)
      have := g.bk
      rw [Nat.mul_add, Nat.mul_one]
      omega
    · show (PyData.leavesShort 8 d && PyData.leavesShortAll 8 ds) = true
      rw [g.ls, h5]
      rfl
    · have ht' : t ∈ d.shown :: PyData.shownAll ds := ht
      rcases List.mem_cons.mp ht' with rfl | ht'
      · exact g.as
      · exact h6 t ht'
theorem tl_list {D B n : Nat} {ds : List PyData} (h : ∀ d ∈ ds, Tl D B d) (hn : ds.length ≤ n) : Tl (D + 1) ((B + 1) * n) (.list ds) := by
  obtain ⟨h1, h2, h4, h5, h6⟩ := tl_all h
  exact ⟨h1, h2, good_list fun d hd => (h d hd).gd, Nat.le_trans h4 (Nat.mul_le_mul_left _ hn), h5, asc_list h6⟩
theorem asc_tuple {ts : List Str} (h : ∀ t ∈ ts, Asc t) : Asc (tupleText ts) := by
  unfold tupleText
  refine asc_app (asc_app (by unfold Asc; decide) fun c hc => ?_) ?_
  · rcases (mem_join _ c ts).mp hc with ⟨t, ht, hc⟩ | ⟨_, hc⟩
    · exact h t ht c hc
    · have hs : Asc (Str.ofString ", ") := by unfold Asc; decide
      exact hs c hc
  · split
    · unfold Asc
      decide
    · unfold Asc
      decide
theorem tl_tuple {D B n : Nat} {ds : List PyData} (h : ∀ d ∈ ds, Tl D B d) (hn : ds.length ≤ n) : Tl (D + 1) ((B + 1) * n) (.tuple ds) := by
  obtain ⟨h1, h2, h4, h5, h6⟩ := tl_all h
  exact ⟨h1, h2, good_tuple fun d hd => (h d hd).gd, Nat.le_trans h4 (Nat.mul_le_mul_left _ hn), h5, asc_tuple h6⟩
theorem Good.up {n m : Nat} {d : PyData} (h : Good n d) (l : n ≤ m) : Good m d := ⟨h.1, Nat.le_trans h.2 l⟩
theorem Tl.up {D B D' B' : Nat} {d : PyData} (h : Tl D B d) (l : D ≤ D') (l2 : B ≤ B') : Tl D' B' d := ⟨h.sh, h.nd, Good.up h.gd l, Nat.le_trans h.bk l2, h.ls, h.as⟩
theorem Tl.told {D B : Nat} {d : PyData} (h : Tl D B d) (l : D ≤ 64) (l2 : B ≤ 1000000) : Told d := by
  have hb := PyData.shown_le_bulk 8 (Nat.le_refl _) d h.ls
  have h2 := h.bk
  refine ⟨⟨h.sh, h.nd, ?_, Nat.le_trans h.gd.2 l⟩, (good_str (n := 0) (asc_ok h.as)).shaped (by decide)⟩
  rw [sizeLine_eq]
  omega
theorem tl_ans {d : PyData} (h : Ans d) : Tl 1 27 d := by
  cases h with
  | bound n v hn hv => exact tl_tuple (B := 8) (n := 3) (D := 0) (fun d hd => by
      simp only [List.mem_cons, List.not_mem_nil, or_false] at hd
      rcases hd with rfl | rfl | rfl
      · exact tl_str (okS_word (by decide +kernel))
      · exact tl_str hn
      · exact tl_str hv) (by simp)
  | one x hx _ => exact (tl_tuple (B := 8) (n := 1) (D := 0) (fun d hd => by
      rw [List.mem_singleton.mp hd]
      exact tl_str hx) (by simp)).up (by omega) (by omega)
theorem tl_texts {xs : List Str} (h : ∀ x ∈ xs, okS x) (hl : xs.length ≤ 10) : Tl 1 90 (textsD xs) := tl_list (B := 8) (n := 10) (D := 0) (fun d hd => by
  obtain ⟨x, hx, rfl⟩ := List.mem_map.mp hd
  exact tl_str (h x hx)) (by rw [List.length_map]; exact hl)
theorem tl_nats {xs : List Nat} (h : ∀ x ∈ xs, x < 10) (hl : xs.length ≤ 10) : Tl 1 10 (natsL xs) := tl_list (B := 0) (n := 10) (D := 0) (fun d hd => by
  obtain ⟨x, hx, rfl⟩ := List.mem_map.mp hd
  exact tl_int (h x hx)) (by rw [List.length_map]; exact hl)
/-! ### the slots as they stand -/
structure Slim (p : Plot) (b : Bs) (sl : TD) : Prop where
  ky : ∀ e ∈ sl, ∃ (x : Str) (j : Nat), e.1 = kSI x j ∧ x ∈ thereOf p b.order ∧ j < 10
  bd : ∀ e ∈ sl, ∀ n v, e.2 = bound n v → n ∈ thereOf p b.order
def imgD (b : Bs) (sl : TD) (ys : List Str) : PyData := .list [natsL b.order, textsD b.pub, textsD b.deep, textsD ys, .tuple (sortT sl)]
theorem tl_slots {p : Plot} {b : Bs} {sl : TD} (st : Stand p b sl) (sm : Slim p b sl) : Tl 3 85000 (.tuple (sortT sl)) := tl_tuple (B := 84) (n := 1000) (D := 2) (fun d hd => by
  have hd' : d ∈ sl.map tripleT := List.mem_mergeSort.mp hd
  obtain ⟨e, he, rfl⟩ := List.mem_map.mp hd'
  obtain ⟨x, j, ek, hx, hj⟩ := sm.ky e he
  have ha := st.kp.an e he
  obtain ⟨k, a⟩ := e
  replace ek : k = kSI x j := ek
  subst ek
  exact tl_tuple (B := 27) (n := 3) (D := 1) (fun d hd => by
    simp only [List.mem_cons, List.not_mem_nil, or_false] at hd
    rcases hd with rfl | rfl | rfl
    · exact (tl_str (okOwn st.pk (there_own st.pk _ x hx))).up (Nat.le_refl _) (by omega)
    · exact (tl_int hj).up (Nat.le_refl _) (by omega)
    · exact tl_ans ha) (by simp)) (by rw [show (sortT sl).length = (sl.map tripleT).length from List.length_mergeSort _, List.length_map]; exact st.kp.ln)
theorem tl_img {p : Plot} {b : Bs} {sl : TD} {ys : List Str} (st : Stand p b sl) (sm : Slim p b sl) (hy : ys.Perm (thereOf p b.order)) : Tl 4 425005 (imgD b sl ys) := tl_list (B := 85000) (n := 5) (D := 3) (fun d hd => by
  have hol := st.bk.olen st.pk
  have hd10 := st.pk.doors.2
  have nm := st.bk.names st.pk
  simp only [List.mem_cons, List.not_mem_nil, or_false] at hd
  rcases hd with rfl | rfl | rfl | rfl | rfl
  · exact (tl_nats (fun k hk => by have := st.bk.ol k hk; omega) hol).up (by omega) (by omega)
  · exact (tl_texts nm.1 (st.bk.publen st.pk)).up (by omega) (by omega)
  · exact (tl_texts nm.2 (st.bk.deeplen st.pk)).up (by omega) (by omega)
  · exact (tl_texts (fun x hx => okOwn st.pk (there_own st.pk _ x (hy.mem_iff.mp hx))) (by rw [hy.length_eq]; exact there_len st.pk _)).up (by omega) (by omega)
  · exact tl_slots st sm) (by simp)
theorem fit_of {p : Plot} {b : Bs} {t : Stp} (h : t.Of p) (hx : ∀ x j, t = .ca x j → x ∈ thereOf p b.order) : t.Fit p b := by
  cases t with
  | op k => exact h
  | cl k => exact h
  | ca x j =>
    obtain ⟨l, i, u, h1, h2, h3⟩ := h
    exact ⟨l, i, u, h1, h2, hx x j rfl, h3⟩
def triedP (p : Plot) (b : Bs) (sl : TD) (t : Stp) : PyData × Bs × TD := match t with
  | .ca x _ => if x ∈ thereOf p b.order then doP p b sl t else (told1 "away", b, sl)
  | _ => doP p b sl t
def tTried (T : Top K mg) : TSo := fun o ds Q => ∃ (a q : Addr) (p : Plot) (b : Bs) (sl : TD) (t : Stp), Stand p b sl ∧ t.Of p ∧ o = proO T a q p b sl ∧ ds = [t.d] ∧ ∀ r, Q (triedP p b sl t).1 (proO T a r p (triedP p b sl t).2.1 (triedP p b sl t).2.2)
theorem ok_tried (T : Top K mg) (TB : LamX.TabB base mg T.cS T.PS) : FnOk P w K mg base (L2.CX P w) 7 T.a_tried T.d_tried ["_law_host", "_law_stride"] (spO K 1 (tTried T)) := by
  refine fnO T.F_tried sc_tried rfl fun c A o s H E hr => ?_
  have nd := sc_tried.nd
  have hu := hr.units
  have hu5 : (A.deeper (envOfC "_law_tried" (defScope s_tried) s.heap.objs.size T.a_tried c)).units + 65 < cLine := by have := hr.un; omega
  refine ⟨_, _, (svs_one (sv_ret (ev_if (ew_or (et_ne hu (ev_ix (ev_name 1) ev_int) ev_str) (ew_or1 (et_in hu5 (ev_ix (ev_name 1) ev_int) (ev_methO0 0 (ok_P_there T) (hr.mono (by decide)) T.c_P T.h_P_there T.B_P_there)))).et (ev_methO 0 (ok_P_do T TB) (hr.mono (by decide)) T.c_P T.h_P_do T.B_P_do (ea_cons (ev_name 1) ea_nil)) (ev_tup (ea_cons ev_str ea_nil))))), fun ob ds P' hl hT => ?_⟩
  obtain ⟨a, q, p, b, sl, t, st, hf, rfl, rfl, qq⟩ := hT
  simp only [proO]
  have so := shaped_str (okS_word (x := "open") (by decide +kernel))
  have sc := shaped_str (okS_word (x := "close") (by decide +kernel))
  have sa := shaped_str (okS_word (x := "call") (by decide +kernel))
  have hno : ∀ {m : Str}, m ≠ "_program" → m ≠ "_layout" → m ≠ "_base" → m ≠ "_slots" → (proFs T.C_L p b).lookup m = none := fun h1 h2 h3 h4 => fP_no h1 h2 h3 h4
  cases t with
  | op k =>
    simp only [Stp.d]
    walk_at "tr"
    refine ⟨so, sa, ?_⟩
    rw [eqv_str, decide_eq_false (by decide +kernel)]
    refine ⟨hno (by decide +kernel) (by decide +kernel) (by decide +kernel) (by decide +kernel), trivial, a, q, p, b, sl, .op k, st, hf, rfl, rfl, fun r => ?_⟩
    have q1 := qq r
    first | exact ⟨rfl, trivial, q1⟩ | exact ⟨trivial, q1⟩ | exact ⟨rfl, q1⟩ | exact q1
  | cl k =>
    simp only [Stp.d]
    walk_at "tr"
    refine ⟨sc, sa, ?_⟩
    rw [eqv_str, decide_eq_false (by decide +kernel)]
    refine ⟨hno (by decide +kernel) (by decide +kernel) (by decide +kernel) (by decide +kernel), trivial, a, q, p, b, sl, .cl k, st, hf, rfl, rfl, fun r => ?_⟩
    have q1 := qq r
    first | exact ⟨rfl, trivial, q1⟩ | exact ⟨trivial, q1⟩ | exact ⟨rfl, q1⟩ | exact q1
  | ca x j =>
    simp only [Stp.d]
    walk_at "tr"
    refine ⟨sa, sa, ?_⟩
    rw [eqv_str, decide_eq_true rfl]
    have hx : okS x := by
      obtain ⟨l, i, u, h1, h2, h3⟩ := hf
      exact okOwn st.pk (List.mem_map.mpr ⟨l, List.mem_of_getElem? h1, h2⟩)
    refine ⟨hno (by decide +kernel) (by decide +kernel) (by decide +kernel) (by decide +kernel), trivial, a, q, p, b, sl, st, rfl, rfl, fun ys hy hs => ?_⟩
    have yo : ∀ y ∈ ys, okS y := fun y hy' => okOwn st.pk (there_own st.pk _ y (hy.mem_iff.mp hy'))
    refine ⟨false, ys.map .str, rfl, shaped_str hx, shaped_list yo, ?_⟩
    rw [any_texts]
    simp only [Bool.false_eq_true, if_false]
    have em : decide (x ∈ ys) = decide (x ∈ thereOf p b.order) := decide_eq_decide.mpr hy.mem_iff
    rw [em]
    unfold triedP at qq
    by_cases c : x ∈ thereOf p b.order
    · rw [decide_eq_true c]
      simp only [c, if_true] at qq ⊢
      refine ⟨trivial, hno (by decide +kernel) (by decide +kernel) (by decide +kernel) (by decide +kernel), trivial, a, q, p, b, sl, .ca x j, st, fit_of hf (fun x' j' e => by cases e; exact c), rfl, rfl, fun r => ?_⟩
      have q1 := qq r
      first | exact ⟨rfl, trivial, q1⟩ | exact ⟨trivial, q1⟩ | exact ⟨rfl, q1⟩ | exact q1
    · rw [decide_eq_false c]
      simp only [c, if_false, Bool.false_eq_true] at qq ⊢
      have q1 := qq q
      exact ⟨by rw [sizeLine_eq]; omega, trivial, trivial, q1⟩
def tImage (T : Top K mg) : TSo := fun o ds Q => ∃ (a q : Addr) (p : Plot) (b : Bs) (sl : TD), Stand p b sl ∧ o = proO T a q p b sl ∧ ds = [] ∧ ∀ ys : List Str, ys.Perm (thereOf p b.order) → sortedS ys = true → Q (imgD b sl ys) o
theorem ok_image (T : Top K mg) : FnOk P w K mg base (L2.CX P w) 3 T.a_image T.d_image ["_law_host"] (spO K 0 (tImage T)) := by
  refine fnO T.F_image sc_image rfl fun c A o s H E hr => ?_
  refine ⟨_, _, (svs_one (sv_ret (en_lst (ea_cons (ev_methO0 0 (ok_P_opened T) (hr.mono (by decide)) T.c_P T.h_P_opened T.B_P_opened) (ea_cons (ev_methO0 0 (ok_P_public T) (hr.mono (by decide)) T.c_P T.h_P_public T.B_P_public) (ea_cons (ev_methO0 0 (ok_P_deep T) (hr.mono (by decide)) T.c_P T.h_P_deep T.B_P_deep) (ea_cons (ev_methO0 0 (ok_P_there T) (hr.mono (by decide)) T.c_P T.h_P_there T.B_P_there) (ea_cons (ev_ix (ev_methO0 0 (ok_P_stand T) (hr.mono (by decide)) T.c_P T.h_P_stand T.B_P_stand) ev_int) ea_nil)))))).ev)), fun ob ds P' hl hT => ?_⟩
  obtain ⟨a, q, p, b, sl, st, rfl, rfl, qq⟩ := hT
  have hno : ∀ {m : Str}, m ≠ "_program" → m ≠ "_layout" → m ≠ "_base" → m ≠ "_slots" → (proFs T.C_L p b).lookup m = none := fun h1 h2 h3 h4 => fP_no h1 h2 h3 h4
  simp only [proO]
  walk_at "tr"
  refine ⟨hno (by decide +kernel) (by decide +kernel) (by decide +kernel) (by decide +kernel), trivial, a, q, p, b, sl, st, rfl, rfl, ?_⟩
  refine ⟨rfl, hno (by decide +kernel) (by decide +kernel) (by decide +kernel) (by decide +kernel), trivial, a, q, p, b, sl, st, rfl, rfl, ?_⟩
  refine ⟨rfl, hno (by decide +kernel) (by decide +kernel) (by decide +kernel) (by decide +kernel), trivial, a, q, p, b, sl, st, rfl, rfl, ?_⟩
  refine ⟨rfl, hno (by decide +kernel) (by decide +kernel) (by decide +kernel) (by decide +kernel), trivial, a, q, p, b, sl, st, rfl, rfl, fun ys hy hs => ?_⟩
  refine ⟨rfl, hno (by decide +kernel) (by decide +kernel) (by decide +kernel) (by decide +kernel), trivial, a, q, p, b, sl, st, rfl, ?_⟩
  have q1 := qq ys hy hs
  exact ⟨by rw [sizeLine_eq]; omega, rfl, trivial, q1⟩
end
end K12
set_option Elab.async false
set_option linter.all false
set_option maxRecDepth 100000
set_option maxHeartbeats 4000000
namespace K12
open PySem PySem.Spec PyProof.Rows L2 Tr
variable [Tabbed]
local macro_rules | `(tactic| walk_at "tr") => `(tactic| simp only [wOwn, wRet, wRetN, wExpr, wAsg, wSet, wSetN, wPar, wParV0, wParN0, wAugI, wgNil, wgCons, wCall, wCall0, wCallM, wCallN, wIxO, wFn, wFn1, wFnN, wTuple1, wAppend, wPopAt, wSetO, wNeO, wIsN, wTup, wLst, wYes, wRep, wSliceL, wSliceT, wRev, wRevT, wIsLT, wIs1, wNeg, wChainI, wMinT, wCallRev, wTru, wInD, wSortedD, wSortedK, wNotN, wAugT, wSetDc, wDput, wNameD, wSlotGet, wSlotPut, wSetLeft, wItems, wFld, wFldO, wSetF, wSetFD, wMethO, wCallO, wMake, wStill, wParB, wSetB, wStar, wSortLam, insAt, objAt, ownAt, asInt, asNat, asList, asTuple, someOf, seqItems, at0, at1, at2, at3, wIf, wB, wOp, wOpN, wName, wLook, wN, wC, wAnd, wOr, wNot, wAndV, wOrV, wNotV, wSeq, wNext, wIfS, wNil, wCons, wPart, wgSeq, gvName, wTurn, wipeE, gI, gI0, gEq, gNe, gLen, gIx, gInt, gAbs, gMin2, gList, gTup1, gMulS, gAll, gCatL, gCatT, gRepT, gRepP, Tr.isNone, Tr.isLT, Tr.top, Tr.isTup, Tr.isInt, Tr.isBool, startE, startM, startO, putT, List.map_cons, List.map_nil, List.length_cons, List.length_nil, List.cons_append, List.nil_append, List.getElem?_cons_zero, List.getElem?_cons_succ, List.set_cons_zero, List.set_cons_succ, List.replicate, List.length_map, if_true, if_false, Bool.false_eq_true, reduceIte, List.mem_cons, List.not_mem_nil, or_false, forall_eq, forall_eq_or_imp, false_implies, implies_true, true_and, and_true, Bool.not_true, Bool.not_false, Option.bind_some, Option.map_some, Option.map_none, Int.reduceLT, Int.reduceLE, Int.reduceToNat, Int.toNat_zero, Int.toNat_one, Int.toNat_natCast, Nat.reduceAdd, Nat.reduceSub, Nat.reduceLT, decide_true, List.set, Int.add_zero, Int.zero_add])
section
variable {P : Program} {w : World} {K : PySem.W.Frag} {mg : Str → Option Value} {base : Heap}
/-! ### the two that go side by side -/
def twin (b : Bs) : Bs := ⟨b.counts.map (2 * ·), b.order, b.pub, b.deep⟩
theorem twin_at (b : Bs) (k : Nat) : (twin b).counts.getD k 0 = 2 * b.counts.getD k 0 := by
  unfold twin
  rw [List.getD_eq_getElem?_getD, List.getD_eq_getElem?_getD, List.getElem?_map]
  cases b.counts[k]? <;> rfl
structure Pair (p : Plot) (b : Bs) (sl : TD) : Prop where
  st : Stand p b sl
  sm : Slim p b sl
  c1 : ∀ c ∈ b.counts, c ≤ 1
theorem Bs.Ok.recount {p : Plot} {b : Bs} (h : b.Ok p) {c : List Nat} (hl : c.length = p.doors.length) (hc : ∀ x ∈ c, x ≤ 2) : (⟨c, b.order, b.pub, b.deep⟩ : Bs).Ok p := ⟨hl, hc, h.ol, h.on, h.pub, h.deep⟩
theorem Pair.mate {p : Plot} {b : Bs} {sl : TD} (h : Pair p b sl) : Stand p (twin b) sl := ⟨h.st.pk, h.st.bk.recount (by rw [List.length_map]; exact h.st.bk.cl) fun x hx => by
  obtain ⟨c, hc, rfl⟩ := List.mem_map.mp hx
  have := h.c1 c hc
  show 2 * c ≤ 2
  omega, h.st.kp⟩
theorem openB_any (p : Plot) (b : Bs) (c : List Nat) (k : Nat) : openB p ⟨c, b.order, b.pub, b.deep⟩ k = ⟨c.set k (c.getD k 0 + 1), (openB p b k).order, (openB p b k).pub, (openB p b k).deep⟩ := by
  unfold openB openCh chg
  split <;> rfl
theorem closeB_any (p : Plot) (b : Bs) (c : List Nat) (k : Nat) (h1 : c.getD k 0 ≤ 1) (h2 : b.counts.getD k 0 ≤ 1) : closeB p ⟨c, b.order, b.pub, b.deep⟩ k = ⟨c.set k (c.getD k 0 - 1), (closeB p b k).order, (closeB p b k).pub, (closeB p b k).deep⟩ := by
  rw [closeB_last h1, closeB_last h2]
  rfl
theorem getD_set0 {c : List Nat} {k v : Nat} (h : k < c.length) : (c.set k v).getD k 0 = v := by
  rw [List.getD_eq_getElem?_getD, List.getElem?_set_self h]
  rfl
theorem twin_set (b : Bs) (k v w : Nat) : ((b.counts.map (2 * ·)).set k w).set k (2 * v) = (b.counts.set k v).map (2 * ·) := by
  rw [List.set_set, List.map_set]
/-- a shut door is opened, twice there -/
theorem pair_open {p : Plot} {b : Bs} {sl : TD} (h : Pair p b sl) {k : Nat} (hk : k < p.doors.length) (hc : b.counts.getD k 0 = 0) :
    doP p b sl (.op k) = (told1 "opened", openB p b k, sl) ∧ Pair p (openB p b k) sl ∧ ∃ m : Bs, doP p (twin b) sl (.op k) = (told1 "opened", m, sl) ∧ doP p m sl (.op k) = (told1 "opened", twin (openB p b k), sl) ∧ Stand p m sl ∧ Slim p m sl ∧ m.order = (openB p b k).order ∧ m.pub = (openB p b k).pub ∧ m.deep = (openB p b k).deep := by
  have ht := twin_at b k
  rw [hc] at ht
  have hkc : k < b.counts.length := by rw [h.st.bk.cl]; exact hk
  have e1 : openP p b k = (Str.ofString "opened", openB p b k) := by unfold openP; rw [if_neg (by omega)]
  have ok1 := openB_ok h.st.pk h.st.bk hk (by omega)
  have st1 : Stand p (openB p b k) sl := ⟨h.st.pk, ok1, h.st.kp⟩
  have em : openB p (twin b) k = ⟨(b.counts.map (2 * ·)).set k 1, (openB p b k).order, (openB p b k).pub, (openB p b k).deep⟩ := by
    have := openB_any p b (b.counts.map (2 * ·)) k
    rw [show (b.counts.map (2 * ·)).getD k 0 = 0 from ht] at this
    exact this
  have e2 : openP p (twin b) k = (Str.ofString "opened", openB p (twin b) k) := by unfold openP; rw [if_neg (by omega)]
  have mono : ∀ {x : Str}, x ∈ thereOf p b.order → x ∈ thereOf p (openB p b k).order := fun hx => there_mono (fun j hj => open_sub hj) hx
  have sm1 : Slim p (openB p b k) sl := ⟨fun e he => by
    obtain ⟨x, j, g1, g2, g3⟩ := h.sm.ky e he
    exact ⟨x, j, g1, mono g2, g3⟩, fun e he n v g => mono (h.sm.bd e he n v g)⟩
  have c1 : (openB p b k).counts = b.counts.set k 1 := by rw [open_counts, hc]
  refine ⟨by unfold doP; simp only; rw [e1], ⟨st1, sm1, fun c hcm => ?_⟩, openB p (twin b) k, by unfold doP; simp only; rw [e2], ?_, ?_, ?_, by rw [em], by rw [em], by rw [em]⟩
  · rw [c1] at hcm
    exact mem_set_le h.c1 (Nat.le_refl _) c hcm
  · have g : (openB p (twin b) k).counts.getD k 0 = 1 := by
      rw [em]
      exact getD_set0 (by rw [List.length_map]; exact hkc)
    have e3 : openP p (openB p (twin b) k) k = (Str.ofString "opened", openB p (openB p (twin b) k) k) := by unfold openP; rw [if_neg (by omega)]
    have e4 : openB p (openB p (twin b) k) k = twin (openB p b k) := by
      rw [openB_in (by rw [em]; exact open_mem), g, em]
      unfold twin
      rw [c1]
      show (⟨((b.counts.map (2 * ·)).set k 1).set k 2, _, _, _⟩ : Bs) = _
      rw [show (2 : Nat) = 2 * 1 from rfl]
      exact congrArg (fun z => (⟨z, (openB p b k).order, (openB p b k).pub, (openB p b k).deep⟩ : Bs)) (twin_set b k 1 1)
    unfold doP
    simp only
    rw [e3, e4]
  · rw [em]
    refine ⟨h.st.pk, ok1.recount (by simpa using h.st.bk.cl) (mem_set_le (fun x hx => ?_) (by omega)), h.st.kp⟩
    obtain ⟨c, hc, rfl⟩ := List.mem_map.mp hx
    have := h.c1 c hc
    show 2 * c ≤ 2
    omega
  · rw [em]
    exact ⟨sm1.ky, sm1.bd⟩
theorem left_same {p : Plot} {b : Bs} {sl : TD} (kp : Kept sl) (h : Slim p b sl) : leftL (thereOf p b.order) sl = sl := by
  have h1 : sl.filter (fun e => keyIn (thereOf p b.order) e.1) = sl := List.filter_eq_self.mpr fun e he => by
    obtain ⟨x, j, ek, hx, _⟩ := h.ky e he
    rw [ek]
    exact decide_eq_true hx
  unfold leftL
  rw [h1]
  have h2 : ∀ e ∈ sl, ((e.1, aLeft (thereOf p b.order) e.2) : List Key × PyData) = id e := fun e he => by
    obtain ⟨k, d⟩ := e
    have ha := kp.an _ he
    have hb := h.bd _ he
    refine Prod.ext rfl ?_
    show aLeft _ d = d
    cases (show Ans d from ha) with
    | bound n v hn hv =>
      have := hb n v rfl
      simp [aLeft, this]
    | one x hx hne => rfl
  rw [List.map_congr_left h2, List.map_id]
theorem left_kept {ks : List Str} {sl : TD} (kp : Kept sl) : Kept (leftL ks sl) := by
  refine ⟨?_, fun e he => ?_, fun e he => ?_, Nat.le_trans left_len kp.ln⟩
  · have e1 : (leftL ks sl).map Prod.fst = (sl.filter fun e => keyIn ks e.1).map Prod.fst := by
      unfold leftL
      rw [List.map_map]
      rfl
    rw [e1]
    exact kp.nd.sublist ((List.filter_sublist).map _)
  · obtain ⟨e0, h0, rfl⟩ := List.mem_map.mp he
    exact kp.ks e0 (List.mem_filter.mp h0).1
  · obtain ⟨e0, h0, rfl⟩ := List.mem_map.mp he
    have ha := kp.an e0 (List.mem_filter.mp h0).1
    obtain ⟨k, d⟩ := e0
    show Ans (aLeft ks d)
    cases (show Ans d from ha) with
    | bound n v hn hv =>
      by_cases c : n ∈ ks
      · simp only [aLeft, c, not_true_eq_false, and_false, if_false]
        exact .bound n v hn hv
      · simp only [aLeft, c, not_false_eq_true, and_true, if_true]
        exact .one _ (okS_word (by decide +kernel)) (by decide +kernel)
    | one x hx hne => exact .one x hx hne
theorem left_slim {p : Plot} {b b' : Bs} {sl : TD} (kp : Kept sl) (h : Slim p b sl) : Slim p b' (leftL (thereOf p b'.order) sl) := by
  refine ⟨fun e he => ?_, fun e he n v g => ?_⟩
  · obtain ⟨e0, h0, rfl⟩ := List.mem_map.mp he
    obtain ⟨h1, h2⟩ := List.mem_filter.mp h0
    obtain ⟨x, j, ek, _, hj⟩ := h.ky e0 h1
    refine ⟨x, j, ek, ?_, hj⟩
    rw [ek] at h2
    exact of_decide_eq_true h2
  · obtain ⟨e0, h0, rfl⟩ := List.mem_map.mp he
    obtain ⟨k, d⟩ := e0
    have ha := kp.an _ (List.mem_filter.mp h0).1
    replace g : aLeft (thereOf p b'.order) d = bound n v := g
    cases (show Ans d from ha) with
    | bound m u hn hv =>
      by_cases c : m ∈ thereOf p b'.order
      · simp only [aLeft, c, not_true_eq_false, and_false, if_false] at g
        unfold bound at g
        simp only [PyData.tuple.injEq, List.cons.injEq, PyData.str.injEq, and_true, true_and] at g
        rw [← g.1]
        exact c
      · simp only [aLeft, c, not_false_eq_true, and_true, if_true] at g
        unfold bound at g
        simp at g
    | one x hx hne =>
      replace g : PyData.tuple [.str x] = bound n v := g
      unfold bound at g
      simp at g
theorem closeP_pos {p : Plot} {b : Bs} {sl : TD} {k : Nat} (h : b.counts.getD k 0 ≠ 0) : closeP p b sl k = (Str.ofString "closed", closeB p b k, leftL (thereOf p (closeB p b k).order) sl) := if_neg h
/-- an open door is shut, twice there -/
theorem pair_close {p : Plot} {b : Bs} {sl : TD} (h : Pair p b sl) {k : Nat} (hk : k < p.doors.length) (hc : b.counts.getD k 0 = 1) :
    ∃ (b' : Bs) (sl' : TD), doP p b sl (.cl k) = (told1 "closed", b', sl') ∧ Pair p b' sl' ∧ sl'.length ≤ sl.length ∧ ∃ m : Bs, doP p (twin b) sl (.cl k) = (told1 "closed", m, sl) ∧ doP p m sl (.cl k) = (told1 "closed", twin b', sl') ∧ Stand p m sl ∧ Slim p m sl ∧ m.order = b.order ∧ m.pub = b.pub ∧ m.deep = b.deep := by
  have ht := twin_at b k
  rw [hc] at ht
  have hkc : k < b.counts.length := by rw [h.st.bk.cl]; exact hk
  have ok1 := closeB_ok h.st.pk h.st.bk (k := k)
  have em : closeB p (twin b) k = ⟨(b.counts.map (2 * ·)).set k 1, b.order, b.pub, b.deep⟩ := by
    rw [closeB_more (by omega), ht]
    rfl
  have g : (closeB p (twin b) k).counts.getD k 0 = 1 := by
    rw [em]
    exact getD_set0 (by rw [List.length_map]; exact hkc)
  have c1 : (closeB p b k).counts = b.counts.set k 0 := by rw [close_counts, hc]
  have e4 : closeB p (closeB p (twin b) k) k = twin (closeB p b k) := by
    rw [em] at g ⊢
    replace g : ((b.counts.map (2 * ·)).set k 1).getD k 0 = 1 := g
    rw [closeB_any p b _ k (by rw [g]; omega) (by omega), g]
    unfold twin
    rw [c1]
    show (⟨((b.counts.map (2 * ·)).set k 1).set k 0, _, _, _⟩ : Bs) = _
    exact congrArg (fun z => (⟨z, (closeB p b k).order, (closeB p b k).pub, (closeB p b k).deep⟩ : Bs)) (twin_set b k 0 1)
  refine ⟨closeB p b k, leftL (thereOf p (closeB p b k).order) sl, ?_, ⟨⟨h.st.pk, ok1, left_kept h.st.kp⟩, left_slim h.st.kp h.sm, fun c hcm => ?_⟩, left_len, closeB p (twin b) k, ?_, ?_, ?_, ?_, by rw [em], by rw [em], by rw [em]⟩
  · unfold doP
    simp only
    rw [closeP_pos (by omega)]
  · rw [c1] at hcm
    exact mem_set_le h.c1 (Nat.zero_le _) c hcm
  · have e : leftL (thereOf p (closeB p (twin b) k).order) sl = sl := by
      rw [em]
      exact left_same (b := b) h.st.kp h.sm
    unfold doP
    simp only
    rw [closeP_pos (by omega), e]
  · unfold doP
    simp only
    rw [closeP_pos (by omega), e4]
    rfl
  · rw [em]
    refine ⟨h.st.pk, h.st.bk.recount (by simpa using h.st.bk.cl) (mem_set_le (fun x hx => ?_) (by omega)), h.st.kp⟩
    obtain ⟨c, hc, rfl⟩ := List.mem_map.mp hx
    have := h.c1 c hc
    show 2 * c ≤ 2
    omega
  · rw [em]
    exact ⟨h.sm.ky, h.sm.bd⟩
/-- a call, told alike -/
theorem pair_call {p : Plot} {b : Bs} {sl : TD} (h : Pair p b sl) {x : Str} {j : Nat} (hf : (Stp.ca x j).Of p) (hl : sl.length < 1000) :
    ∃ (d : PyData) (sl' : TD), triedP p b sl (.ca x j) = (d, b, sl') ∧ triedP p (twin b) sl (.ca x j) = (d, twin b, sl') ∧ Pair p b sl' ∧ Ans d ∧ sl'.length ≤ sl.length + 1 := by
  have away : Ans (told1 "away") := .one _ (okS_word (by decide +kernel)) (by decide +kernel)
  by_cases c : x ∈ thereOf p b.order
  · obtain ⟨l, i, u, hi, rfl, hu⟩ := hf
    have lo := looks_own h.st.pk h.st.bk (x := l.own)
    have e1 : triedP p b sl (.ca l.own j) = ((callP p b sl l.own j).1, b, (callP p b sl l.own j).2) := if_pos c
    have e2 : triedP p (twin b) sl (.ca l.own j) = ((callP p b sl l.own j).1, twin b, (callP p b sl l.own j).2) := if_pos c
    refine ⟨_, _, e1, e2, ?_⟩
    have hj : j < 10 := by
      have := (List.getElem?_eq_some_iff.mp hu).1
      have := (h.st.pk.libs.1 l (List.mem_of_getElem? hi)).1.uses.2
      omega
    unfold callP
    cases g : getP sl (kSI l.own j) with
    | some d => exact ⟨h, h.st.kp.an _ (get_mem g), Nat.le_succ _⟩
    | none =>
      have ha : Ans (ansOf p (looksOf p b l.own) (useOf p l.own j)) := ans_ok h.st.pk lo.1
      have hb : ∀ n v, ansOf p (looksOf p b l.own) (useOf p l.own j) = bound n v → n ∈ thereOf p b.order := fun n v e => by
        rcases ans_cases (p := p) (along := looksOf p b l.own) (u := useOf p l.own j) with ⟨n', v', h1, _, h3⟩ | h3
        · rw [h3] at e
          unfold bound at e
          simp only [PyData.tuple.injEq, List.cons.injEq, PyData.str.injEq, and_true, true_and] at e
          rw [← e.1]
          exact looks_there h.st.bk h1
        · rw [h3] at e
          unfold unb bound at e
          split at e <;> simp at e
      simp only
      generalize ansOf p (looksOf p b l.own) (useOf p l.own j) = a at ha hb
      cases kd : keepD a with
      | false =>
        simp only [Bool.false_eq_true, if_false]
        exact ⟨h, ha, Nat.le_succ _⟩
      | true =>
        simp only [if_true]
        have nin : kSI l.own j ∉ sl.map Prod.fst := fun z => by
          obtain ⟨e, he, ee⟩ := List.mem_map.mp z
          unfold getP at g
          cases q : sl.find? (fun p => decide (p.1 = kSI l.own j)) with
          | none =>
            have := List.find?_eq_none.mp q e he
            simp [ee] at this
          | some y => rw [q] at g; cases g
        have ep : putP sl (kSI l.own j) a = sl ++ [(kSI l.own j, a)] := by
          unfold putP
          rw [if_neg]
          intro z
          obtain ⟨y, hy, e⟩ := List.any_eq_true.mp z
          exact nin (List.mem_map.mpr ⟨y, hy, by simpa using e⟩)
        rw [ep]
        refine ⟨⟨⟨h.st.pk, h.st.bk, ⟨?_, fun e he => ?_, fun e he => ?_, ?_⟩⟩, ⟨fun e he => ?_, fun e he n v q => ?_⟩, h.c1⟩, ha, ?_⟩
        · rw [List.map_append]
          exact List.nodup_append.mpr ⟨h.st.kp.nd, by simp, fun y hy z hz e => nin (by rw [List.map_singleton, List.mem_singleton] at hz; have hz' : z = kSI l.own j := hz; rw [← hz', ← e]; exact hy)⟩
        · rcases List.mem_append.mp he with he | he
          · exact h.st.kp.ks e he
          · rw [List.mem_singleton.mp he]
            exact ⟨_, _, rfl⟩
        · rcases List.mem_append.mp he with he | he
          · exact h.st.kp.an e he
          · rw [List.mem_singleton.mp he]
            exact ha
        · rw [List.length_append]
          show sl.length + 1 ≤ 1000
          omega
        · rcases List.mem_append.mp he with he | he
          · exact h.sm.ky e he
          · rw [List.mem_singleton.mp he]
            exact ⟨_, j, rfl, c, hj⟩
        · rcases List.mem_append.mp he with he | he
          · exact h.sm.bd e he n v q
          · rw [List.mem_singleton.mp he] at q
            exact hb n v q
        · rw [List.length_append]
          exact Nat.le_refl _
  · exact ⟨told1 "away", sl, if_neg c, if_neg c, h, away, Nat.le_succ _⟩
theorem pair_first {p : Plot} (hp : p.Ok) : Pair p (firstB p) [] ∧ twin (firstB p) = firstB p :=
  ⟨⟨⟨hp, firstB_ok hp, ⟨.nil, fun e h => (nomatch h), fun e h => (nomatch h), Nat.zero_le _⟩⟩, ⟨fun e h => (nomatch h), fun e h => (nomatch h)⟩, fun c h => by rw [List.eq_of_mem_replicate h]; omega⟩, by
    unfold twin firstB
    simp⟩
end
end K12
set_option Elab.async false
set_option linter.all false
set_option maxRecDepth 100000
set_option maxHeartbeats 4000000
namespace K12
open PySem PySem.Spec PyProof.Rows L2 Tr
variable [Tabbed]
local macro_rules | `(tactic| walk_at "tr") => `(tactic| simp only [wOwn, wRet, wRetN, wExpr, wAsg, wSet, wSetN, wPar, wParV0, wParN0, wAugI, wgNil, wgCons, wCall, wCall0, wCallM, wCallN, wIxO, wFn, wFn1, wFnN, wTuple1, wAppend, wPopAt, wSetO, wNeO, wIsN, wTup, wLst, wYes, wRep, wSliceL, wSliceT, wRev, wRevT, wIsLT, wIs1, wNeg, wChainI, wMinT, wCallRev, wTru, wInD, wSortedD, wSortedK, wNotN, wAugT, wSetDc, wDput, wNameD, wSlotGet, wSlotPut, wSetLeft, wItems, wFld, wFldO, wSetF, wSetFD, wMethO, wCallO, wMake, wStill, wParB, wSetB, wStar, wSortLam, insAt, objAt, ownAt, asInt, asNat, asList, asTuple, someOf, seqItems, at0, at1, at2, at3, wIf, wB, wOp, wOpN, wName, wLook, wN, wC, wAnd, wOr, wNot, wAndV, wOrV, wNotV, wSeq, wNext, wIfS, wNil, wCons, wPart, wgSeq, gvName, wTurn, wipeE, gI, gI0, gEq, gNe, gLen, gIx, gInt, gAbs, gMin2, gList, gTup1, gMulS, gAll, gCatL, gCatT, gRepT, gRepP, Tr.isNone, Tr.isLT, Tr.top, Tr.isTup, Tr.isInt, Tr.isBool, startE, startM, startO, putT, List.map_cons, List.map_nil, List.length_cons, List.length_nil, List.cons_append, List.nil_append, List.getElem?_cons_zero, List.getElem?_cons_succ, List.set_cons_zero, List.set_cons_succ, List.replicate, List.length_map, if_true, if_false, Bool.false_eq_true, reduceIte, List.mem_cons, List.not_mem_nil, or_false, forall_eq, forall_eq_or_imp, false_implies, implies_true, true_and, and_true, Bool.not_true, Bool.not_false, Option.bind_some, Option.map_some, Option.map_none, Int.reduceLT, Int.reduceLE, Int.reduceToNat, Int.toNat_zero, Int.toNat_one, Int.toNat_natCast, Nat.reduceAdd, Nat.reduceSub, Nat.reduceLT, decide_true, List.set, Int.add_zero, Int.zero_add])
section
variable {P : Program} {w : World} {K : PySem.W.Frag} {mg : Str → Option Value} {base : Heap}
/-! ### a round -/
def tRight : TSm := fun cs ds Q => ∃ n : Nat, BoxOk n cs ∧ n < 500000 ∧ ds = [] ∧ ∀ cs', BoxOk (n + 2000) cs' → Q (.bool true) cs'
abbrev cCounts (T : Top K mg) (i : Nat) : W1 := wMethO T.C_P "counts" i 0 (tView T fun _ b => natsL b.counts) wNil
abbrev cTail (T : Top K mg) : WS := wSeq (wIfS (wNot (wB (wCall 2 tSame (wCons (wCallO 4 0 (tImage T) wNil) (wCons (wCallO 5 0 (tImage T) wNil) wNil))))) (wRet (wC (.bool false))) wNext)
  (wForget 7 (wIfS (wB (wOp gNe (cCounts T 5) (wN (wLc (cCounts T 4) (gvName 7) wYes (wOp (gI CMul fun i j => .int (i * j)) (wC (.int 2)) (wName 7)) [7])))) (wRet (wC (.bool false))) wNext))
theorem right_tail (T : Top K mg) {p : Plot} {b : Bs} {sl : TD} (pr : Pair p b sl) (N : Nd) (cs : List PyData) (x q y r : Addr) (t1 t2 t3 t6 t7 t8 t9 : Sl) (h : ∀ t7' : Sl, N.nx [.own true cs, t1, t2, t3, .obj (proO T x q p b sl), .obj (proO T y r p (twin b) sl), t6, t7', t8, t9]) :
    Tr.Later (cTail T) [.own true cs, t1, t2, t3, .obj (proO T x q p b sl), .obj (proO T y r p (twin b) sl), t6, t7, t8, t9] N := by
  have hno : ∀ {b : Bs} {m : Str}, m ≠ "_program" → m ≠ "_layout" → m ≠ "_base" → m ≠ "_slots" → (proFs T.C_L p b).lookup m = none := fun h1 h2 h3 h4 => fP_no h1 h2 h3 h4
  refine Tr.Later.now ?_
  simp only [cTail, cCounts, wForget]
  walk_at "tr"
  refine ⟨trivial, x, q, p, b, sl, pr.st, rfl, rfl, fun ys hy hs => ⟨trivial, y, r, p, twin b, sl, pr.mate, rfl, rfl, fun ys' hy' hs' => ?_⟩⟩
  have e : ys' = ys := sorted_uniq hy' hy hs' hs
  subst e
  refine ⟨imgD b sl ys', rfl, (tl_img pr.st pr.sm hy).told (by omega) (by omega), ?_⟩
  walk_at "tr"
  refine Tr.Later.now ?_
  walk_at "tr"
  refine Tr.Later.now ?_
  simp only [proO, wForget]
  walk_at "tr"
  refine ⟨hno (by decide +kernel) (by decide +kernel) (by decide +kernel) (by decide +kernel), trivial, y, r, p, twin b, sl, pr.mate, rfl, rfl, ?_⟩
  have hcl := pr.st.bk.cl
  have hd10 := pr.st.pk.doors.2
  refine lc_each (b := false) (ds := b.counts.map intT) (es := (b.counts.map (2 * ·)).map intT) (fun P' h => ?_) (by simp) (by simp; omega) (fun v hv => by simp only [List.mem_cons, List.not_mem_nil, or_false] at hv; rcases hv with rfl; rfl) (fun k z w hz hw P2 h2 => ?_) ?_
  · walk_at "tr"
    refine ⟨hno (by decide +kernel) (by decide +kernel) (by decide +kernel) (by decide +kernel), trivial, x, q, p, b, sl, pr.st, rfl, rfl, ?_⟩
    exact h
  · obtain ⟨c, hc, rfl, rfl⟩ : ∃ c : Nat, c ≤ 1 ∧ z = intT c ∧ w = intT (2 * c) := by
      rw [List.getElem?_map] at hz
      rw [List.getElem?_map, List.getElem?_map] at hw
      cases e : b.counts[k]? with
      | none => rw [e] at hz; cases hz
      | some c =>
        rw [e] at hz hw
        exact ⟨c, pr.c1 c (List.mem_of_getElem? e), (Option.some.inj hz).symm, (Option.some.inj hw).symm⟩
    unfold intT at h2 ⊢
    walk_at "tr"
    refine ⟨.inl ⟨by decide, by decide⟩, ?_⟩
    have e2 : ((2 * c : Nat) : Int) = 2 * (c : Int) := by omega
    rw [e2] at h2
    exact h2 _ rfl
  · have gg : Good 1 (natsL (twin b).counts) := good_list (n := 0) fun d hd => by
      obtain ⟨c, _, rfl⟩ := List.mem_map.mp hd
      exact good_int _
    refine ⟨gg.shaped (by decide), gg.shaped (by decide), ?_⟩
    rw [show PyData.eqv (natsL (twin b).counts) (.list ((b.counts.map (2 * ·)).map intT)) = true from gg.eqv]
    walk_at "tr"
    refine Tr.Later.now ?_
    walk_at "tr"
    exact h _
theorem ok_right (T : Top K mg) (TB : LamX.TabB base mg T.cS T.PS) : FnG P w K mg base 13 T.a_right T.d_right ["_law_box_here"] (spM K 0 tRight) := by
  refine fn_mutG T.F_right sc_right rfl fun c A o s H E hgd hr => ?_
  have nd := sc_right.nd
  have hu := hr.units
  refine ⟨_, _, (svs_cons (sv_forR T.b_range ev_int (gv_name 1 nd) (svs_cons (sv_set 2 nd (ev_callM 0 (ok_program T) (hr.mono (by decide)) T.m_program T.F_program.kp T.B_program (ea_cons ev_int (ea_cons ev_int ea_nil))))
      (svs_cons (sv_parB 4 5 rfl nd (eb_make T.mk_P (ok_P_init T) (hr.mono (by decide)) T.m_P T.B_P_init .nil (fun _ => .nil) (ea_cons (ev_name 2) ea_nil)) (eb_make T.mk_P (ok_P_init T) (hr.mono (by decide)) T.m_P T.B_P_init .nil (fun _ => .nil) (ea_cons (ev_name 2) ea_nil)))
      (svs_one (sv_forR T.b_range ev_int (gv_name 3 nd) (svs_cons (sv_set 6 nd (ev_callM 0 (ok_step T) (hr.mono (by decide)) T.m_step T.F_step.kp T.B_step (ea_cons (ev_name 2) ea_nil)))
      (svs_cons (sv_set 7 nd (ev_if (et_ne hu (ev_ix (ev_name 6) ev_int) ev_str) (ev_ix (ev_methO0 4 (ok_P_counts T) (hr.mono (by decide)) T.c_P T.h_P_counts T.B_P_counts) (ev_ix (ev_name 6) ev_int)) ev_int))
      (svs_cons (sv_if (ew_or (et_eq hu (ev_ix (ev_name 6) ev_int) ev_str) (ew_or (ew_and (et_eq hu (ev_ix (ev_name 6) ev_int) ev_str) (ew_and1 (et_eq hu (ev_name 7) ev_int))).et (ew_or1 (ew_and (et_eq hu (ev_ix (ev_name 6) ev_int) ev_str) (ew_and1 (et_eq hu (ev_name 7) ev_int))).et))).et (svs_cons (sv_setN 8 nd (en_lst (ea_cons (ev_callO 4 (ok_tried T TB) (hr.mono (by decide)) T.m_tried T.F_tried.kp T.B_tried (ea_cons (ev_name 6) ea_nil)) ea_nil)))
      (svs_cons (sv_set 9 nd (ev_callO 5 (ok_image T) (hr.mono (by decide)) T.m_image T.F_image.kp T.B_image ea_nil))
      (svs_cons (sv_append 8 (ev_callO 5 (ok_tried T TB) (hr.mono (by decide)) T.m_tried T.F_tried.kp T.B_tried (ea_cons (ev_name 6) ea_nil)))
      (svs_cons (sv_if (ew_and (et_eq hu (ev_ix (ev_name 6) ev_int) ev_str) (ew_and1 (et_ne hu (ev_callO 5 (ok_image T) (hr.mono (by decide)) T.m_image T.F_image.kp T.B_image ea_nil) (ev_name 9)))).et (svs_one (sv_ret ev_bl)) svs_nil)
      (svs_cons (sv_set 9 nd (ev_callO 5 (ok_image T) (hr.mono (by decide)) T.m_image T.F_image.kp T.B_image ea_nil))
      (svs_cons (sv_if (et_ne hu (ev_ix (ev_name 6) ev_int) ev_str) (svs_one (sv_append 8 (ev_methO 5 (ok_P_do T TB) (hr.mono (by decide)) T.c_P T.h_P_do T.B_P_do (ea_cons (ev_name 6) ea_nil)))) svs_nil)
      (svs_one (sv_if (ew_or (ew_and (et_eq hu (ev_ix (ev_name 6) ev_int) ev_str) (ew_and1 (et_ne hu (ev_callO 5 (ok_image T) (hr.mono (by decide)) T.m_image T.F_image.kp T.B_image ea_nil) (ev_name 9)))).et (ew_or1 (et_not (et_val (ev_callG (ok_same T) hgd (hr.mono (by decide)) T.m_same T.F_same.kp T.B_same (ea_cons (ev_name 8) (ea_cons (en_rep (en_slice (ev_name 8) eo_none (eo_some ev_int)) (ev_len T.b_len (er_name 8))).ev ea_nil))))))).et (svs_one (sv_ret ev_bl)) svs_nil)))))))) svs_nil)
      (svs_cons (sv_if (et_not (et_val (ev_callG (ok_same T) hgd (hr.mono (by decide)) T.m_same T.F_same.kp T.B_same (ea_cons (ev_callO 4 (ok_image T) (hr.mono (by decide)) T.m_image T.F_image.kp T.B_image ea_nil) (ea_cons (ev_callO 5 (ok_image T) (hr.mono (by decide)) T.m_image T.F_image.kp T.B_image ea_nil) ea_nil))))) (svs_one (sv_ret ev_bl)) svs_nil)
      (svs_one (sv_forget 7 (sv_if (et_ne hu (ev_methO0 5 (ok_P_counts T) (hr.mono (by decide)) T.c_P T.h_P_counts T.B_P_counts) (en_lc [("_law_many", 7)] rfl nd (ev_methO0 4 (ok_P_counts T) (hr.mono (by decide)) T.c_P T.h_P_counts T.B_P_counts) (blkOk_by (N := N_right) (sc := defScope s_right) (by decide +kernel)) (fun _ _ _ _ _ => (gv_name 7 nd)) (fun _ _ _ _ _ => ets_nil) (fun _ _ _ _ _ => (ev_mul ev_int (ev_name 7))) (by decide)).ev) (svs_one (sv_ret ev_bl)) svs_nil))))))) PassesOwn.never rfl)))) PassesOwn.never rfl)
      (svs_one (sv_ret ev_bl))), fun cs ds P' hl hT => ?_⟩
  obtain ⟨n, hB, hn, rfl, q⟩ := hT
  walk_at "tr"
  unfold wForR
  walk_at "tr"
  refine ⟨by omega, by omega, fun k ρ => ∃ cs' t1 t2 t3 t4 t5 t6 t7 t8 t9, ρ = [.own true cs', t1, t2, t3, t4, t5, t6, t7, t8, t9] ∧ BoxOk (n + 900 * k) cs', ⟨cs, _, _, _, _, _, _, _, _, _, rfl, hB⟩, fun k ρ hk hI => ?_, fun ρ hI => ?_⟩
  · obtain ⟨cs1, t1, t2, t3, t4, t5, t6, t7, t8, t9, rfl, hB1⟩ := hI
    have hk2 : k < 2 := by simpa using hk
    refine Tr.Later.now ?_
    walk_at "tr"
    refine ⟨n + 900 * k, 6, 4, hB1, by omega, rfl, by omega, by omega, by omega, by omega, fun p cs2 hp hB2 => ?_⟩
    rw [← plotT_d]
    refine Tr.Later.now ?_
    walk_at "tr"
    refine fun x => ⟨x, p, hp, rfl, rfl, fun qa => ⟨rfl, fun y => ⟨y, p, hp, rfl, rfl, fun qb => ⟨rfl, ?_⟩⟩⟩⟩
    obtain ⟨pf, tf⟩ := pair_first hp
    refine Tr.Later.now ?_
    refine ⟨by omega, by omega, fun k2 ρ => ∃ cs' b sl x q y r t1 t3 t6 t7 t8 t9, ρ = [.own true cs', t1, .val (plotT true p), t3, .obj (proO T x q p b sl), .obj (proO T y r p (twin b) sl), t6, t7, t8, t9] ∧ Pair p b sl ∧ sl.length ≤ k2 ∧ BoxOk (n + 900 * k + 600 + 3 * k2) cs', ⟨cs2, firstB p, [], x, qa, y, qb, _, _, _, _, _, _, by rw [tf], pf, Nat.le_refl _, hB2⟩, fun k2 ρ hk2' hI => ?_, fun ρ hI => ?_⟩
    · obtain ⟨cs3, b, sl, x, qx, y, qy, t1, t3, t6, t7, t8, t9, rfl, pr, hsl, hB3⟩ := hI
      have hk3 : k2 < 30 := by simpa using hk2'
      have hok := pr.st.pk
      simp only [proO]
      walk_at "tr"
      refine Tr.Later.now ?_
      walk_at "tr"
      refine ⟨n + 900 * k + 600 + 3 * k2, p, hB3, by omega, hp, rfl, fun t cs4 ht hB4 => ?_⟩
      refine Tr.Later.now ?_
      have so := shaped_str (okS_word (x := "open") (by decide +kernel))
      have sc := shaped_str (okS_word (x := "close") (by decide +kernel))
      have sa := shaped_str (okS_word (x := "call") (by decide +kernel))
      have hno : ∀ {b : Bs} {m : Str}, m ≠ "_program" → m ≠ "_layout" → m ≠ "_base" → m ≠ "_slots" → (proFs T.C_L p b).lookup m = none := fun h1 h2 h3 h4 => fP_no h1 h2 h3 h4
      have hcl := pr.st.bk.cl
      cases t with
      | op g =>
        have hg : g < p.doors.length := ht
        have hgc : g < b.counts.length := by omega
        simp only [Stp.d]
        walk_at "tr"
        refine ⟨so, sa, ?_⟩
        rw [eqv_str, decide_eq_false (by decide +kernel)]
        simp only [Bool.not_false, if_true]
        refine ⟨hno (by decide +kernel) (by decide +kernel) (by decide +kernel) (by decide +kernel), trivial, x, qx, p, b, sl, pr.st, rfl, rfl, ?_⟩
        simp only [natsL]
        rw [atI_nat, getD_at hgc]
        refine Tr.Later.now ?_
        walk_at "tr"
        refine ⟨so, sa, ?_⟩
        rw [eqv_str, decide_eq_false (by decide +kernel)]
        walk_at "tr"
        refine ⟨so, sc, ?_⟩
        rw [eqv_str, decide_eq_false (by decide +kernel)]
        walk_at "tr"
        refine ⟨so, so, ?_⟩
        rw [eqv_str, decide_eq_true rfl]
        walk_at "tr"
        refine ⟨shaped_int _, shaped_int _, ?_⟩
        rw [eqv_int]
        by_cases hz : b.counts.getD g 0 = 0
        · rw [decide_eq_true (by omega)]
          walk_at "tr"
          refine Tr.Later.now ?_
          walk_at "tr"
          obtain ⟨e1, pr', m, e2, e3, stm, smm, mo, mp, md⟩ := pair_open pr hg hz
          have e1' : triedP p b sl (.op g) = (told1 "opened", openB p b g, sl) := e1
          have e2' : triedP p (twin b) sl (.op g) = (told1 "opened", m, sl) := e2
          refine ⟨trivial, x, qx, p, b, sl, .op g, pr.st, ht, rfl, rfl, fun qx' => ⟨by rw [sizeLine_eq]; omega, ?_⟩⟩
          rw [e1']
          refine Tr.Later.now ?_
          walk_at "tr"
          refine ⟨trivial, y, qy, p, twin b, sl, pr.mate, rfl, rfl, fun ys hy hs => ?_⟩
          refine Tr.Later.now ?_
          walk_at "tr"
          refine ⟨trivial, y, qy, p, twin b, sl, .op g, pr.mate, ht, rfl, rfl, fun qy' => ?_⟩
          rw [e2']
          refine ⟨by rw [sizeLine_eq]; omega, ?_⟩
          refine Tr.Later.now ?_
          walk_at "tr"
          refine ⟨so, sc, ?_⟩
          rw [eqv_str, decide_eq_false (by decide +kernel)]
          walk_at "tr"
          refine Tr.Later.now ?_
          walk_at "tr"
          refine Tr.Later.now ?_
          walk_at "tr"
          refine ⟨trivial, y, qy', p, m, sl, stm, rfl, rfl, fun ys' hy' hs' => ?_⟩
          refine Tr.Later.now ?_
          walk_at "tr"
          refine ⟨so, sa, ?_⟩
          rw [eqv_str, decide_eq_false (by decide +kernel)]
          walk_at "tr"
          refine Tr.Later.now ?_
          simp only [proO]
          walk_at "tr"
          refine ⟨hno (by decide +kernel) (by decide +kernel) (by decide +kernel) (by decide +kernel), trivial, y, qy', p, m, sl, .op g, stm, ht, rfl, rfl, fun qz => ?_⟩
          rw [e3]
          refine ⟨by rw [sizeLine_eq]; simp, ?_⟩
          refine Tr.Later.now ?_
          walk_at "tr"
          refine ⟨so, so, ?_⟩
          rw [eqv_str, decide_eq_true rfl]
          walk_at "tr"
          refine ⟨trivial, y, qz, p, twin (openB p b g), sl, pr'.mate, rfl, rfl, fun ys2 hy2 hs2 => ?_⟩
          have ei : imgD (twin (openB p b g)) sl ys2 = imgD m sl ys' := by
            have ey : ys2 = ys' := sorted_uniq hy2 (by rw [mo] at hy'; exact hy') hs2 hs'
            unfold imgD
            rw [ey, mo, mp, md]
            rfl
          have gm := (tl_img stm smm hy').gd
          rw [ei]
          refine ⟨gm.shaped (by decide), gm.shaped (by decide), ?_⟩
          rw [gm.eqv]
          walk_at "tr"
          have ha : Ans (told1 "opened") := .one _ (okS_word (by decide +kernel)) (by decide +kernel)
          generalize told1 "opened" = d at ha ⊢
          have hc1 : Tr.cutD [d, d, d] none (some 1) = [d] := cut_take (k := 1) (by simp)
          rw [hc1]
          have td : Told (.list [d, d, d]) := (tl_list (B := 27) (n := 3) (D := 1) (fun e he => by
            simp only [List.mem_cons, List.not_mem_nil, or_false, or_self] at he
            rw [he]
            exact tl_ans ha) (by simp)).told (by omega) (by omega)
          refine ⟨by omega, by rw [sizeLine_eq]; simp, .list [d, d, d], rfl, td, ?_⟩
          walk_at "tr"
          refine Tr.Later.now ?_
          walk_at "tr"
          exact right_tail T pr' _ cs4 x qx' y qz _ _ _ _ _ _ _ fun t7' => ⟨cs4, openB p b g, sl, x, qx', y, qz, _, _, _, _, _, _, rfl, pr', by omega, hB4.mono (by omega)⟩
        · rw [decide_eq_false (by omega)]
          walk_at "tr"
          refine Tr.Later.now ?_
          walk_at "tr"
          exact right_tail T pr _ cs4 x qx y qy _ _ _ _ _ _ _ fun t7' => ⟨cs4, b, sl, x, qx, y, qy, _, _, _, _, _, _, rfl, pr, by omega, hB4.mono (by omega)⟩
      | cl g =>
        have hg : g < p.doors.length := ht
        have hgc : g < b.counts.length := by omega
        simp only [Stp.d]
        walk_at "tr"
        refine ⟨sc, sa, ?_⟩
        rw [eqv_str, decide_eq_false (by decide +kernel)]
        simp only [Bool.not_false, if_true]
        refine ⟨hno (by decide +kernel) (by decide +kernel) (by decide +kernel) (by decide +kernel), trivial, x, qx, p, b, sl, pr.st, rfl, rfl, ?_⟩
        simp only [natsL]
        rw [atI_nat, getD_at hgc]
        refine Tr.Later.now ?_
        walk_at "tr"
        refine ⟨sc, sa, ?_⟩
        rw [eqv_str, decide_eq_false (by decide +kernel)]
        walk_at "tr"
        refine ⟨sc, sc, ?_⟩
        rw [eqv_str, decide_eq_true rfl]
        walk_at "tr"
        refine ⟨shaped_int _, shaped_int _, ?_⟩
        rw [eqv_int]
        by_cases hz : b.counts.getD g 0 = 1
        · rw [decide_eq_true (by omega)]
          walk_at "tr"
          refine Tr.Later.now ?_
          walk_at "tr"
          obtain ⟨b', sl', e1, pr', hls, m, e2, e3, stm, smm, mo, mp, md⟩ := pair_close pr hg hz
          have e1' : triedP p b sl (.cl g) = (told1 "closed", b', sl') := e1
          have e2' : triedP p (twin b) sl (.cl g) = (told1 "closed", m, sl) := e2
          refine ⟨trivial, x, qx, p, b, sl, .cl g, pr.st, ht, rfl, rfl, fun qx' => ⟨by rw [sizeLine_eq]; omega, ?_⟩⟩
          rw [e1']
          refine Tr.Later.now ?_
          walk_at "tr"
          refine ⟨trivial, y, qy, p, twin b, sl, pr.mate, rfl, rfl, fun ys hy hs => ?_⟩
          refine Tr.Later.now ?_
          walk_at "tr"
          refine ⟨trivial, y, qy, p, twin b, sl, .cl g, pr.mate, ht, rfl, rfl, fun qy' => ?_⟩
          rw [e2']
          refine ⟨by rw [sizeLine_eq]; omega, ?_⟩
          refine Tr.Later.now ?_
          walk_at "tr"
          refine ⟨sc, sc, ?_⟩
          rw [eqv_str, decide_eq_true rfl]
          walk_at "tr"
          refine ⟨trivial, y, qy', p, m, sl, stm, rfl, rfl, fun ys' hy' hs' => ?_⟩
          have ei : imgD m sl ys' = imgD (twin b) sl ys := by
            have ey : ys' = ys := sorted_uniq (zs := thereOf p b.order) (by rw [mo] at hy'; exact hy') hy hs' hs
            unfold imgD
            rw [ey, mo, mp, md]
            rfl
          have gm := (tl_img stm smm hy').gd
          rw [← ei]
          refine ⟨gm.shaped (by decide), gm.shaped (by decide), ?_⟩
          rw [gm.eqv]
          walk_at "tr"
          refine Tr.Later.now ?_
          walk_at "tr"
          refine Tr.Later.now ?_
          walk_at "tr"
          refine ⟨trivial, y, qy', p, m, sl, stm, rfl, rfl, fun ys2 hy2 hs2 => ?_⟩
          refine Tr.Later.now ?_
          walk_at "tr"
          refine ⟨sc, sa, ?_⟩
          rw [eqv_str, decide_eq_false (by decide +kernel)]
          walk_at "tr"
          refine Tr.Later.now ?_
          simp only [proO]
          walk_at "tr"
          refine ⟨hno (by decide +kernel) (by decide +kernel) (by decide +kernel) (by decide +kernel), trivial, y, qy', p, m, sl, .cl g, stm, ht, rfl, rfl, fun qz => ?_⟩
          rw [e3]
          refine ⟨by rw [sizeLine_eq]; simp, ?_⟩
          refine Tr.Later.now ?_
          walk_at "tr"
          refine ⟨sc, so, ?_⟩
          rw [eqv_str, decide_eq_false (by decide +kernel)]
          walk_at "tr"
          have ha : Ans (told1 "closed") := .one _ (okS_word (by decide +kernel)) (by decide +kernel)
          generalize told1 "closed" = d at ha ⊢
          have hc1 : Tr.cutD [d, d, d] none (some 1) = [d] := cut_take (k := 1) (by simp)
          rw [hc1]
          have td : Told (.list [d, d, d]) := (tl_list (B := 27) (n := 3) (D := 1) (fun e he => by
            simp only [List.mem_cons, List.not_mem_nil, or_false, or_self] at he
            rw [he]
            exact tl_ans ha) (by simp)).told (by omega) (by omega)
          refine ⟨by omega, by rw [sizeLine_eq]; simp, .list [d, d, d], rfl, td, ?_⟩
          walk_at "tr"
          refine Tr.Later.now ?_
          walk_at "tr"
          exact right_tail T pr' _ cs4 x qx' y qz _ _ _ _ _ _ _ fun t7' => ⟨cs4, b', sl', x, qx', y, qz, _, _, _, _, _, _, rfl, pr', by omega, hB4.mono (by omega)⟩
        · rw [decide_eq_false (by omega)]
          walk_at "tr"
          refine ⟨sc, so, ?_⟩
          rw [eqv_str, decide_eq_false (by decide +kernel)]
          walk_at "tr"
          refine Tr.Later.now ?_
          walk_at "tr"
          exact right_tail T pr _ cs4 x qx y qy _ _ _ _ _ _ _ fun t7' => ⟨cs4, b, sl, x, qx, y, qy, _, _, _, _, _, _, rfl, pr, by omega, hB4.mono (by omega)⟩
      | ca z j =>
        simp only [Stp.d]
        walk_at "tr"
        refine ⟨sa, sa, ?_⟩
        rw [eqv_str, decide_eq_true rfl]
        simp only [Bool.not_true, Bool.false_eq_true, if_false]
        refine Tr.Later.now ?_
        walk_at "tr"
        refine ⟨sa, sa, ?_⟩
        rw [eqv_str, decide_eq_true rfl]
        walk_at "tr"
        refine Tr.Later.now ?_
        walk_at "tr"
        obtain ⟨d, sl', e1, e2, pr', ha, hl'⟩ := pair_call pr ht (by omega)
        refine ⟨trivial, x, qx, p, b, sl, .ca z j, pr.st, ht, rfl, rfl, fun qx' => ⟨by rw [sizeLine_eq]; omega, ?_⟩⟩
        rw [e1]
        refine Tr.Later.now ?_
        walk_at "tr"
        refine ⟨trivial, y, qy, p, twin b, sl, pr.mate, rfl, rfl, fun ys hy hs => ?_⟩
        refine Tr.Later.now ?_
        walk_at "tr"
        refine ⟨trivial, y, qy, p, twin b, sl, .ca z j, pr.mate, ht, rfl, rfl, fun qy' => ?_⟩
        rw [e2]
        refine ⟨by rw [sizeLine_eq]; omega, ?_⟩
        refine Tr.Later.now ?_
        walk_at "tr"
        refine ⟨sa, sc, ?_⟩
        rw [eqv_str, decide_eq_false (by decide +kernel)]
        walk_at "tr"
        refine Tr.Later.now ?_
        walk_at "tr"
        refine Tr.Later.now ?_
        walk_at "tr"
        refine ⟨trivial, y, qy', p, twin b, sl', pr'.mate, rfl, rfl, fun ys' hy' hs' => ?_⟩
        refine Tr.Later.now ?_
        walk_at "tr"
        refine ⟨sa, sa, ?_⟩
        rw [eqv_str, decide_eq_true rfl]
        walk_at "tr"
        refine Tr.Later.now ?_
        walk_at "tr"
        refine Tr.Later.now ?_
        walk_at "tr"
        refine ⟨sa, so, ?_⟩
        rw [eqv_str, decide_eq_false (by decide +kernel)]
        walk_at "tr"
        have hc1 : Tr.cutD [d, d] none (some 1) = [d] := cut_take (k := 1) (by simp)
        rw [hc1]
        have td : Told (.list [d, d]) := (tl_list (B := 27) (n := 2) (D := 1) (fun e he => by
          simp only [List.mem_cons, List.not_mem_nil, or_false, or_self] at he
          rw [he]
          exact tl_ans ha) (by simp)).told (by omega) (by omega)
        refine ⟨by omega, by rw [sizeLine_eq]; simp, .list [d, d], rfl, td, ?_⟩
        walk_at "tr"
        refine Tr.Later.now ?_
        walk_at "tr"
        exact right_tail T pr' _ cs4 x qx' y qy' _ _ _ _ _ _ _ fun t7' => ⟨cs4, b, sl', x, qx', y, qy', _, _, _, _, _, _, rfl, pr', by omega, hB4.mono (by omega)⟩
    · obtain ⟨cs3, b, sl, x, qx, y, qy, t1, t3, t6, t7, t8, t9, rfl, pr, hsl, hB3⟩ := hI
      exact ⟨cs3, _, _, _, _, _, _, _, _, _, rfl, hB3.mono (by simp; omega)⟩
  · obtain ⟨cs1, t1, t2, t3, t4, t5, t6, t7, t8, t9, rfl, hB1⟩ := hI
    refine Tr.Later.now ?_
    walk_at "tr"
    exact q cs1 (hB1.mono (by simp))
end
end K12
set_option Elab.async false
set_option linter.all false
set_option maxRecDepth 100000
set_option maxHeartbeats 4000000
namespace K12
open PySem PySem.Spec PyProof.Rows L2 Tr
variable [Tabbed]
local macro_rules | `(tactic| walk_at "tr") => `(tactic| simp only [wOwn, wRet, wRetN, wExpr, wAsg, wSet, wSetN, wPar, wParV0, wParN0, wAugI, wgNil, wgCons, wCall, wCall0, wCallM, wCallN, wIxO, wFn, wFn1, wFnN, wTuple1, wAppend, wPopAt, wSetO, wNeO, wIsN, wTup, wLst, wYes, wRep, wSliceL, wSliceT, wRev, wRevT, wIsLT, wIs1, wNeg, wChainI, wMinT, wCallRev, wTru, wInD, wSortedD, wSortedK, wNotN, wAugT, wSetDc, wDput, wNameD, wSlotGet, wSlotPut, wSetLeft, wItems, wFld, wFldO, wSetF, wSetFD, wMethO, wCallO, wMake, wStill, wParB, wSetB, wStar, wSortLam, insAt, objAt, ownAt, asInt, asNat, asList, asTuple, someOf, seqItems, at0, at1, at2, at3, wIf, wB, wOp, wOpN, wName, wLook, wN, wC, wAnd, wOr, wNot, wAndV, wOrV, wNotV, wSeq, wNext, wIfS, wNil, wCons, wPart, wgSeq, gvName, wTurn, wipeE, gI, gI0, gEq, gNe, gLen, gIx, gInt, gAbs, gMin2, gList, gTup1, gMulS, gAll, gCatL, gCatT, gRepT, gRepP, Tr.isNone, Tr.isLT, Tr.top, Tr.isTup, Tr.isInt, Tr.isBool, startE, startM, startO, putT, List.map_cons, List.map_nil, List.length_cons, List.length_nil, List.cons_append, List.nil_append, List.getElem?_cons_zero, List.getElem?_cons_succ, List.set_cons_zero, List.set_cons_succ, List.replicate, List.length_map, if_true, if_false, Bool.false_eq_true, reduceIte, List.mem_cons, List.not_mem_nil, or_false, forall_eq, forall_eq_or_imp, false_implies, implies_true, true_and, and_true, Bool.not_true, Bool.not_false, Option.bind_some, Option.map_some, Option.map_none, Int.reduceLT, Int.reduceLE, Int.reduceToNat, Int.toNat_zero, Int.toNat_one, Int.toNat_natCast, Nat.reduceAdd, Nat.reduceSub, Nat.reduceLT, decide_true, List.set, Int.add_zero, Int.zero_add])
section
variable {P : Program} {w : World} {K : PySem.W.Frag} {mg : Str → Option Value} {base : Heap}
/-! ### the law -/
def tLaw : TSp := fun ds Q => ∃ ns : List Int, ds = [.list (ns.map .int)] ∧ ns.length < 1000 ∧ (∀ n ∈ ns, n.natAbs.log2 < 1048576) ∧ Q (.bool true)
theorem ok_law (T : Top K mg) (okR : FnG P w K mg base 13 T.a_right T.d_right ["_law_box_here"] (spM K 0 tRight)) :
    FnG P w K mg base 14 T.a_law T.d_law ["_law_script"] (spV K 1 tLaw) := by
  refine fn_pureG T.F_law sc_law rfl fun c A o s H E hgd hr => ?_
  have nd := sc_law.nd
  have hu := hr.units
  refine ⟨_, _, (svs_cons (sv_forR T.b_range (ev_add ev_int (ev_min2 rfl T.b_min (ea_cons ev_int (ea_cons (ev_len T.b_len (er_name 0)) ea_nil)))) (gv_name 1 nd) (svs_cons (sv_setN 2 nd (en_call (ok_box T) (hr.mono (by decide)) T.m_box T.F_box.kp T.B_box (ea_cons (ev_name 0) (ea_cons (ev_name 1) ea_nil))))
      (svs_one (sv_if (et_not (et_val (ev_all (cr_all rfl) T.b_all (en_lcR (te := tCall (spM K 0 tRight) [] E0 _) [("_law_time", 3)] T.b_range rfl nd ev_int (blkOk_by (N := N_law) (sc := defScope s_law) (by decide +kernel)) (fun _ _ _ _ _ => (gv_name 3 nd)) (fun _ _ _ _ _ => ets_nil) (fun _ _ _ _ _ => (ev_callMG 2 okR hgd (hr.mono (by decide)) T.m_right T.F_right.kp T.B_right ea_nil)) (by decide)).ev.er))) (svs_one (sv_ret ev_bl)) svs_nil))) PassesOwn.never rfl)
      (svs_one (sv_ret ev_bl))), fun ds P' hl hT => ?_⟩
  obtain ⟨ns, rfl, hn, hb, q⟩ := hT
  walk_at "tr"
  unfold wForR
  walk_at "tr"
  refine ⟨by split <;> omega, by split <;> omega, fun k ρ => ∃ (t1 t2 : Sl), ρ = [.val (.list (ns.map .int)), t1, t2, .un], ⟨_, _, rfl⟩, fun k ρ hk hI => ?_, fun ρ hI => ?_⟩
  · obtain ⟨t1, t2, rfl⟩ := hI
    refine Tr.Later.now ?_
    walk_at "tr"
    have hk2 : k < 100 := by
      split at hk <;> omega
    refine ⟨ns, k, rfl, hk2, fun es hes => ?_⟩
    refine Tr.Later.now ?_
    walk_at "tr"
    unfold wLcR
    walk_at "tr"
    refine ⟨by omega, by omega, fun m acc ρ => ∃ cs : List PyData, acc = List.replicate m (.bool true) ∧ ρ = [.val (.list (ns.map .int)), .val (.int k), .own false cs, .un] ∧ (m = 0 → BoxOk 0 cs), ⟨es, rfl, rfl, fun _ => hes⟩, fun m acc ρ hm hI => ?_, fun acc ρ hI => ?_⟩
    · obtain ⟨cs, rfl, rfl, hB⟩ := hI
      have m0 : m = 0 := by simpa using hm
      subst m0
      walk_at "tr"
      exact ⟨0, hB rfl, by omega, rfl, fun cs' hB' => ⟨by decide, cs', rfl, rfl, fun z => by omega⟩⟩
    · obtain ⟨cs, rfl, rfl, hB⟩ := hI
      refine ⟨[true], rfl, ?_⟩
      show (if (!true) = true then _ else _)
      rw [if_neg (by decide)]
      refine Tr.Later.now ?_
      walk_at "tr"
      exact ⟨_, _, rfl⟩
  · obtain ⟨t1, t2, rfl⟩ := hI
    refine Tr.Later.now ?_
    walk_at "tr"
    exact q
end
end K12
set_option Elab.async false
set_option linter.all false
set_option maxRecDepth 100000
set_option maxHeartbeats 2000000
/-! TrE: the end of a law: its entry, with the tables of code objects, and the bits of the script's numbers -/
namespace Tr
open PySem PySem.Spec PyProof.Rows L2
variable [Tabbed]
/-! ### the law's entry -/
/-- the script alone is known -/
def onlyS (a : Addr) (o : Obj) (xs : List V) : Hp := fun b => if b = a then some (.frz o (.lst xs)) else none
theorem law_entry {P : Program} {w : World} {K : PySem.W.Frag} {mg mb : Str → Option Value} {k : Nat} {fa a : Addr} {fd : FuncData} {x : Str} {sp : Sp} {s : Shared} {vs : List Value} {ns : List Int} (H : Hp)
    (hH : ∀ b, H b = none ∨ (b = a ∧ K.lookup a = none ∧ H b = some (.frz { cls := .type "list", data := .seq vs.toArray } (.lst (ns.map V.int)))) ∨ (Tb b ∧ H b = some (.tbl #[])))
    (hT : ∀ b, Tb b → s.heap.get? b = some (PySem.W.tabObj #[]) ∧ K.lookup b = none ∧ isCodeTable s.heap b)
    (bmain : ∃ bm ob, mg "__builtins__" = some (.ref bm) ∧ bm ≠ builtinsNs ∧ s.heap.get? bm = some ob ∧ ob.cls = .type "module" ∧ ob.dict = some builtinsNs ∧ ob.data = .plain)
    (KX : K.In s.heap) (hns : s.heap.Ns mainGlobals mg) (hb : s.heap.Ns builtinsNs mb) (hbb : ∀ y : Str, y ≠ "__name__" → mb y = bootBuiltins y) (hlim : s.heap.NoLimit) (hg : s.gens = #[])
    (ha : s.heap.get? a = some { cls := .type "list", data := .seq vs.toArray }) (hi : IntsAre vs ns) (hl : ns.length ≤ sizeLine) (hr : Room k callerA)
    (G : ∀ base : Heap, K.In base → base.Ns mainGlobals mg → (∀ b, Tb b → base.BuiltinsAt mg b ∧ mainGlobals ≠ b) → FnG P w K mg base k fa fd [x] sp) (hbind : ∀ (s : Shared) (u : Value), BindsTo s fd ⟨[u], []⟩ [(x, u)]) (hsp : sp [.ref a] H (fun v _ => v = .bl true) E0) :
    codeAny (model P w) callerA (.call (.ref fa) ⟨[.ref a], []⟩) (fun r s' => r = .ok (.ret (.bool true)) ∧ OldK s.heap s'.heap ∧ s'.os = s.os ∧ AllBare s'.gens) s := by
  have free : ∀ b o, s.heap.get? b = some o → (b = a → K.lookup a = none → False) → (Tb b → False) → H b = none := fun b o e no nt => by
    rcases hH b with z | ⟨z1, z2, _⟩ | ⟨z, _⟩
    · exact z
    · exact (no z1 z2).elim
    · exact (nt z).elim
  have hok : HOk P w H s.heap := fun b u e => by
    rcases hH b with z | ⟨z1, z2, z3⟩ | ⟨z1, z2⟩
    · rw [z] at e
      cases e
    · subst z1
      cases z3.symm.trans e
      exact ⟨ha, by rw [List.length_map]; exact hl, vs, _, vals_ints hi, ha⟩
    · cases z2.symm.trans e
      exact (hT b z1).1
  have nsF : ∀ {b : Addr} {m : Str → Option Value}, s.heap.Ns b m → (hidT s.heap H).Ns b m := by
    rintro b m ⟨o, es, ep, e, d, r⟩
    refine ⟨o, es, ep, hidT_get e (free b o e (fun z _ => ?_) fun z => ?_), d, r⟩
    · subst z
      cases ha.symm.trans e
      cases d
    · cases (hT b z).1.symm.trans e
      cases d
  have hKb : K.In (hidT s.heap H) := fun b o e => hidT_get (KX b o e) (free b o (KX b o e) (fun z1 z2 => by
    subst z1
    cases z2.symm.trans e) fun z => by
    cases (hT b z).2.1.symm.trans e)
  have hbt : ∀ b, Tb b → (hidT s.heap H).BuiltinsAt mg b ∧ mainGlobals ≠ b := fun b hb => by
    obtain ⟨bm, ob, m1, m2, m3, m4, m5, m6⟩ := bmain
    have nb : ∀ {c : Addr} {m : Str → Option Value}, s.heap.Ns c m → ∀ {d : Addr} {o : Obj}, s.heap.get? d = some o → (∀ es n, o.data ≠ .dict es n) → d ≠ c := fun {c m} hn {d o} e no z => by
      obtain ⟨o2, es, ep, e2, d2, _⟩ := hn
      subst z
      cases e.symm.trans e2
      exact no _ _ d2
    refine ⟨⟨bm, ob, m1, m2, nb hns m3 (fun es n z => by rw [m6] at z; cases z), fun z => ?_, hidT_get m3 (free bm ob m3 (fun z _ => ?_) fun z => ?_), m4, m5, m6⟩, Ne.symm (nb hns (hT b hb).1 fun es n z => by cases z)⟩
    · subst z
      cases (hT bm hb).1.symm.trans m3
      cases m6
    · subst z
      cases ha.symm.trans m3
      cases m6
    · cases (hT bm z).1.symm.trans m3
      cases m6
  obtain ⟨mc, l1, l2⟩ := hlim
  have e0 : Env0 P w K mg (hidT s.heap H) callerA [] s H := ⟨rfl, ⟨hKb, nsF hns, ⟨mb, nsF hb, hbb⟩, ⟨mc, nsF l1, l2⟩⟩, fun b o e => of_hidT e, Nat.le_of_eq (hidT_size _ _), trivial, fun b z => absurd z (by simp [frs]), hok, .of_eq hg⟩
  refine codeAny_mono ((G _ hKb (nsF hns) hbt).2 callerA [] s H ⟨[.ref a], []⟩ [.ref a] [.ref a] _ E0 rfl hr e0 (hbind s (.ref a)) (.cons rfl .nil) hsp) fun r s2 h => ?_
  match r, h with
  | .error er, h =>
    obtain ⟨_, _, _, _, _, _, _, _, _, _, _, _, z⟩ := h
    exact z.elim
  | .ok .next, h => exact False.elim h
  | .ok .brk, h => exact False.elim h
  | .ok .cont, h => exact False.elim h
  | .ok (.ret u), ⟨v, H2, os, bare, un, hok2, rv, q⟩ =>
    have q' : v = .bl true := q
    subst q'
    have all : ∀ b o, s.heap.get? b = some o → asItWas s.heap s2.heap b o := fun b o e => by
      rcases hH b with z | ⟨z1, z2, z3⟩ | ⟨z1, z2⟩
      · exact .inl (un.keep b o e z (by simp [frs]) (by simp))
      · have g1 := (hok b _ z3).1
        have g2 := (hok2 b _ (un.frzs b _ _ z3)).1
        rw [e] at g1
        cases g1
        exact .inl g2
      · obtain ⟨more, g1⟩ := un.tbls b _ z2
        have g2 : s2.heap.get? b = some { cls := Value.none, data := .fields (#[] ++ more) } := hok2 b _ g1
        have g3 := (hT b z1).1
        rw [e] at g3
        cases g3
        exact .inr (.inl ⟨(hT b z1).2.2, rfl, #[], more, rfl, g2⟩)
    refine ⟨by rw [show u = Value.bool true from rv], ⟨all, fun b o e => ?_⟩, os, bare⟩
    rcases all b o e with g | ⟨_, _, _, _, _, g⟩ | ⟨_, _, ⟨_, _, _, g, _⟩, _⟩
    · exact ⟨_, g⟩
    · exact ⟨_, g⟩
    · exact ⟨_, g⟩
theorem log_bits {k : Int} (h : Builtin.Int.intBits k ≤ 1048576) : k.natAbs.log2 < 1048576 := by
  unfold Builtin.Int.intBits at h
  by_cases e : k = 0
  · subst e
    decide
  · rw [if_neg (by simpa using e)] at h
    exact h
open Classical in
/-- the tables are there too -/
noncomputable def withT (S : Hp) : Hp := fun b => if Tb b then some (.tbl #[]) else S b
theorem withT_tb {S : Hp} {b : Addr} (h : Tb b) : withT S b = some (.tbl #[]) := if_pos h
theorem withT_no {S : Hp} {b : Addr} (h : ¬ Tb b) : withT S b = S b := if_neg h
theorem walk_GB {l : PySem.W.OpenLaw} {n k : Nat} {q : Program} {loose : List Str} {XP : (Str → Option Value) → Heap → Prop} {YP : World → Heap → Prop} {d : DefRec} {K : Params → PySem.W.Frag} {T : TSp} {x : Str}
    (hn : l.most = some n) (hn2 : n ≤ sizeLine) (hdf : d.params.defaults = []) (hr : Room k callerA) (hY : ∀ (w : World) (h : Heap), YP w h → (K w.params).In h)
    (hTb : ∀ (w : World) (h : Heap), YP w h → ∀ b, Tb b → h.get? b = some (PySem.W.tabObj #[]) ∧ (K w.params).lookup b = none ∧ isCodeTable h b)
    (F : ∀ (w : World) (mg : Str → Option Value) (fa : Addr) (h : Heap), (K w.params).In h → h.Ns mainGlobals mg → mg d.name = some (.ref fa) →
      ∃ fd : FuncData, (∀ (s : Shared) (u : Value), BindsTo s fd ⟨[u], []⟩ [(x, u)]) ∧ ∀ base : Heap, (K w.params).In base → base.Ns mainGlobals mg → (∀ b, Tb b → base.BuiltinsAt mg b ∧ mainGlobals ≠ b) → FnG l.prog w (K w.params) mg base k fa fd [x] (spV (K w.params) 1 T))
    (hT : ∀ ns : List Int, ns.length ≤ n → (∀ k ∈ ns, k.natAbs.log2 < 1048576) → T [.list (ns.map .int)] fun r => r = .bool true) : PySem.W.WalkO q loose XP YP l.row.toRowW d [] (fun f vs => PySem.call f vs) := by
  refine Att.attach_callB hn hdf fun w s₀ s mg mb fa o pm cd doc a vs ns Gr Y ho hd hcd hmg hobj hints hlen hbits hg => ?_
  have KX := hY w _ Y
  have TX := hTb w _ Y
  obtain ⟨fd, hb, hF⟩ := F w mg fa _ KX Gr.T.g hmg
  have hall : ∀ (H : Hp) (xs : List Int), DqAll (K w.params) H (xs.map V.int) (xs.map PyData.int) := fun H xs => by
    induction xs with
    | nil => exact .nil
    | cons y ys ih => exact .cons (.int y) ih
  have na : ∀ b, Tb b → b ≠ a := fun b h z => by
    subst z
    have := (TX b h).1
    rw [hobj] at this
    cases this
  have go : ∀ S : Hp, (∀ b, S b = none ∨ (b = a ∧ (K w.params).lookup a = none ∧ S b = some (.frz { cls := .type "list", data := .seq vs.toArray } (.lst (ns.map V.int))))) → SqQ (K w.params) S a (ns.map V.int) → _ := fun S hS hQ => by
    have off : ∀ b, Tb b → S b = none := fun b h => (hS b).elim id fun z => absurd z.1 (na b h)
    have sm : Same S (withT S) := fun b o e => by
      rw [withT_no fun h => by rw [off b h] at e; cases e]
      exact e
    have fo : Found S (withT S) := ⟨fun p hp => ⟨#[], withT_tb ⟨p, hp, rfl⟩, trivial, fun pos cv hc => by cases hc⟩, off⟩
    refine law_entry (withT S) (fun b => ?_) TX Gr.T.bmain KX Gr.T.g Gr.T.b Gr.T.builtins Gr.T.nolimit hg hobj hints (Nat.le_trans hlen hn2) hr hF hb ?_
    · by_cases h : Tb b
      · exact .inr (.inr ⟨h, withT_tb h⟩)
      · rw [withT_no h]
        exact (hS b).imp id .inl
    · refine ⟨S, [.list (ns.map .int)], fun r => r = .bool true, sm, fo, .cons (.lst hQ (hall S ns)) .nil, rfl, hT ns hlen fun k hk => log_bits (hbits k hk), fun dd v S' H' e _ _ _ _ hv => ?_⟩
      subst e
      cases hv
      rfl
  cases hk : (K w.params).lookup a with
  | some ob =>
    have e := KX a ob hk
    rw [hobj] at e
    cases e
    refine go (fun _ => none) (fun _ => .inl rfl) (.inr ⟨vs, _, hk, ?_, vals_ints hints⟩)
    rw [hints.length]
    exact Nat.le_trans hlen hn2
  | none =>
    refine go (onlyS a { cls := .type "list", data := .seq vs.toArray } (ns.map V.int)) (fun b => ?_) (.inl (.inr ⟨{ cls := .type "list", data := .seq vs.toArray }, if_pos rfl⟩))
    by_cases hb : b = a
    · exact .inr ⟨hb, hk, if_pos hb⟩
    · exact .inl (if_neg hb)
end Tr
set_option Elab.async false
set_option linter.all false
set_option maxRecDepth 100000
set_option maxHeartbeats 4000000
namespace K12
open PySem PySem.Spec PyProof.Rows L2 Tr
open PySem.W (OpenLaw)
variable [Tabbed]
theorem two_none {K : PySem.W.Frag} {x qual : Str} {params : Arguments} {body : List Stmt} {scope : Scope} {f : Addr} {fd : FuncData} {ps : List Str} (F : L2.FunD K x qual params body scope [.non, .non] [] f fd) (hn : 4 = ps.length)
    (h : ∀ (T : Addr) (kV doc pm : Value) (an : Option Addr) (cdv ct : Value) (us its : List Value), us.length = 2 → its.length = 2 →
      ∃ k, bindArgs (PySem.W.fnOf x qual params body scope (.ref T) kV doc pm an cdv ct) ⟨us, []⟩ = seqItems? (.ref T) >>= k ∧ k (some its.toArray) = pure (ps.zip (us ++ its.drop 0))) : Binds K fd ps [.none, .none] := by
  obtain ⟨ds, h1, h2⟩ := F.binds1 2 0 (List.cons_ne_nil _ _) hn h
  match ds, h1 with
  | [_, _], .cons e1 (.cons e2 .nil) =>
    cases (show _ = Value.none from e1)
    cases (show _ = Value.none from e2)
    exact h2
theorem all_mk {l : PySem.W.OpenLaw} {w : World} {K : PySem.W.Frag} {h : Heap} {mg : Str → Option Value} {fa : Addr} (X : K.In h) (G : h.Ns mainGlobals mg) (hfa : mg "law" = some (.ref fa))
    {f_is_below f_frozen f_row f_first_row f_gives f_serving f_answer_along f_unbound_answer f_serves f_lib_named f_use_in f_add_new C_L f_L_init TD_L_init f_among f_first_base f_opened_base f_closed_base f_opening f_closing f_changed_base f_with_count f_names_there f_looks_along C_P f_P_init f_P_open_door f_P_close_door f_P_call f_P_do f_P_counts f_P_opened f_P_there f_P_public f_P_deep f_P_looks f_P_slot f_P_stand f_P_count f_P_lib_there f_slots_left f_answer_left f_cell_at f_box f_take f_pick f_same f_names f_some f_pairs f_lib f_program f_step f_tried f_image f_right f_law cS1 A_nb A_lo A_to : Addr} {od_is_below an_is_below od_frozen an_frozen od_row an_row od_first_row an_first_row od_gives an_gives od_serving an_serving od_answer_along an_answer_along od_unbound_answer an_unbound_answer od_serves an_serves od_lib_named an_lib_named od_use_in an_use_in od_add_new an_add_new od_L_init an_L_init xo_L_init od_among an_among od_first_base an_first_base od_opened_base an_opened_base od_closed_base an_closed_base od_opening an_opening od_closing an_closing od_changed_base an_changed_base od_with_count an_with_count od_names_there an_names_there od_looks_along an_looks_along od_P_init an_P_init od_P_open_door an_P_open_door od_P_close_door an_P_close_door od_P_call an_P_call od_P_do an_P_do od_P_counts an_P_counts od_P_opened an_P_opened od_P_there an_P_there od_P_public an_P_public od_P_deep an_P_deep od_P_looks an_P_looks od_P_slot an_P_slot od_P_stand an_P_stand od_P_count an_P_count od_P_lib_there an_P_lib_there od_slots_left an_slots_left od_answer_left an_answer_left od_cell_at an_cell_at od_box an_box od_take an_take od_pick an_pick od_same an_same od_names an_names od_some an_some od_pairs an_pairs od_lib an_lib od_program an_program od_step an_step od_tried an_tried od_image an_image od_right an_right od_law an_law o_nb o_lo o_to : Option Addr} {sl_is_below sl_frozen sl_row sl_first_row sl_gives sl_serving sl_answer_along sl_unbound_answer sl_serves sl_lib_named sl_use_in sl_add_new sl_L_init xs_L_init sl_among sl_first_base sl_opened_base sl_closed_base sl_opening sl_closing sl_changed_base sl_with_count sl_names_there sl_looks_along sl_P_init sl_P_open_door sl_P_close_door sl_P_call sl_P_do sl_P_counts sl_P_opened sl_P_there sl_P_public sl_P_deep sl_P_looks sl_P_slot sl_P_stand sl_P_count sl_P_lib_there sl_slots_left sl_answer_left sl_cell_at sl_box sl_take sl_pick sl_same sl_names sl_some sl_pairs sl_lib sl_program sl_step sl_tried sl_image sl_right sl_law s_nb s_lo s_to : Array (Option Value)} {oc_is_below kV_is_below dc_is_below pm_is_below cd_is_below ct_is_below oc_frozen kV_frozen dc_frozen pm_frozen cd_frozen ct_frozen oc_row kV_row dc_row pm_row cd_row ct_row oc_first_row kV_first_row dc_first_row pm_first_row cd_first_row ct_first_row oc_gives kV_gives dc_gives pm_gives cd_gives ct_gives oc_serving kV_serving dc_serving pm_serving cd_serving ct_serving oc_answer_along kV_answer_along dc_answer_along pm_answer_along cd_answer_along ct_answer_along oc_unbound_answer kV_unbound_answer dc_unbound_answer pm_unbound_answer cd_unbound_answer ct_unbound_answer oc_serves kV_serves dc_serves pm_serves cd_serves ct_serves oc_lib_named kV_lib_named dc_lib_named pm_lib_named cd_lib_named ct_lib_named oc_use_in kV_use_in dc_use_in pm_use_in cd_use_in ct_use_in oc_add_new kV_add_new dc_add_new pm_add_new cd_add_new ct_add_new oc_L_init kV_L_init dc_L_init pm_L_init cd_L_init ct_L_init oc_among kV_among dc_among pm_among cd_among ct_among oc_first_base kV_first_base dc_first_base pm_first_base cd_first_base ct_first_base oc_opened_base kV_opened_base dc_opened_base pm_opened_base cd_opened_base ct_opened_base oc_closed_base kV_closed_base dc_closed_base pm_closed_base cd_closed_base ct_closed_base oc_opening kV_opening dc_opening pm_opening cd_opening ct_opening oc_closing kV_closing dc_closing pm_closing cd_closing ct_closing oc_changed_base kV_changed_base dc_changed_base pm_changed_base cd_changed_base ct_changed_base oc_with_count kV_with_count dc_with_count pm_with_count cd_with_count ct_with_count oc_names_there kV_names_there dc_names_there pm_names_there cd_names_there ct_names_there oc_looks_along kV_looks_along dc_looks_along pm_looks_along cd_looks_along ct_looks_along oc_P_init kV_P_init dc_P_init pm_P_init cd_P_init ct_P_init oc_P_open_door kV_P_open_door dc_P_open_door pm_P_open_door cd_P_open_door ct_P_open_door oc_P_close_door kV_P_close_door dc_P_close_door pm_P_close_door cd_P_close_door ct_P_close_door oc_P_call kV_P_call dc_P_call pm_P_call cd_P_call ct_P_call oc_P_do kV_P_do dc_P_do pm_P_do cd_P_do ct_P_do oc_P_counts kV_P_counts dc_P_counts pm_P_counts cd_P_counts ct_P_counts oc_P_opened kV_P_opened dc_P_opened pm_P_opened cd_P_opened ct_P_opened oc_P_there kV_P_there dc_P_there pm_P_there cd_P_there ct_P_there oc_P_public kV_P_public dc_P_public pm_P_public cd_P_public ct_P_public oc_P_deep kV_P_deep dc_P_deep pm_P_deep cd_P_deep ct_P_deep oc_P_looks kV_P_looks dc_P_looks pm_P_looks cd_P_looks ct_P_looks oc_P_slot kV_P_slot dc_P_slot pm_P_slot cd_P_slot ct_P_slot oc_P_stand kV_P_stand dc_P_stand pm_P_stand cd_P_stand ct_P_stand oc_P_count kV_P_count dc_P_count pm_P_count cd_P_count ct_P_count oc_P_lib_there kV_P_lib_there dc_P_lib_there pm_P_lib_there cd_P_lib_there ct_P_lib_there oc_slots_left kV_slots_left dc_slots_left pm_slots_left cd_slots_left ct_slots_left oc_answer_left kV_answer_left dc_answer_left pm_answer_left cd_answer_left ct_answer_left oc_cell_at kV_cell_at dc_cell_at pm_cell_at cd_cell_at ct_cell_at oc_box kV_box dc_box pm_box cd_box ct_box oc_take kV_take dc_take pm_take cd_take ct_take oc_pick kV_pick dc_pick pm_pick cd_pick ct_pick oc_same kV_same dc_same pm_same cd_same ct_same oc_names kV_names dc_names pm_names cd_names ct_names oc_some kV_some dc_some pm_some cd_some ct_some oc_pairs kV_pairs dc_pairs pm_pairs cd_pairs ct_pairs oc_lib kV_lib dc_lib pm_lib cd_lib ct_lib oc_program kV_program dc_program pm_program cd_program ct_program oc_step kV_step dc_step pm_step cd_step ct_step oc_tried kV_tried dc_tried pm_tried cd_tried ct_tried oc_image kV_image dc_image pm_image cd_image ct_image oc_right kV_right dc_right pm_right cd_right ct_right oc_law kV_law dc_law pm_law cd_law ct_law : Value} {xn_L_init u_nb u_lo u_to : Nat} {t_mo t_nb t_lo t_to : Tok}
    (l_is_below : K.lookup f_is_below = some ⟨oc_is_below, od_is_below, .func (PySem.W.fnOf "is_below" "is_below" (defArgs s_is_below) (defBody s_is_below) (defScope s_is_below) .none kV_is_below dc_is_below pm_is_below an_is_below cd_is_below ct_is_below), sl_is_below⟩)
    (y_is_below : PySem.W.codeIn K cd_is_below "is_below" = true)
    (k_is_below : PySem.W.keepIn K (.ref f_is_below) = true)
    (n_is_below_at : PySem.W.nsIn K mainGlobals "is_below" = some (some (.ref f_is_below)))
    (l_frozen : K.lookup f_frozen = some ⟨oc_frozen, od_frozen, .func (PySem.W.fnOf "frozen" "frozen" (defArgs s_frozen) (defBody s_frozen) (defScope s_frozen) .none kV_frozen dc_frozen pm_frozen an_frozen cd_frozen ct_frozen), sl_frozen⟩)
    (y_frozen : PySem.W.codeIn K cd_frozen "frozen" = true)
    (k_frozen : PySem.W.keepIn K (.ref f_frozen) = true)
    (n_frozen_at : PySem.W.nsIn K mainGlobals "frozen" = some (some (.ref f_frozen)))
    (l_row : K.lookup f_row = some ⟨oc_row, od_row, .func (PySem.W.fnOf "row" "row" (defArgs s_row) (defBody s_row) (defScope s_row) .none kV_row dc_row pm_row an_row cd_row ct_row), sl_row⟩)
    (y_row : PySem.W.codeIn K cd_row "row" = true)
    (k_row : PySem.W.keepIn K (.ref f_row) = true)
    (n_row_at : PySem.W.nsIn K mainGlobals "row" = some (some (.ref f_row)))
    (l_first_row : K.lookup f_first_row = some ⟨oc_first_row, od_first_row, .func (PySem.W.fnOf "first_row" "first_row" (defArgs s_first_row) (defBody s_first_row) (defScope s_first_row) .none kV_first_row dc_first_row pm_first_row an_first_row cd_first_row ct_first_row), sl_first_row⟩)
    (y_first_row : PySem.W.codeIn K cd_first_row "first_row" = true)
    (k_first_row : PySem.W.keepIn K (.ref f_first_row) = true)
    (n_first_row_at : PySem.W.nsIn K mainGlobals "first_row" = some (some (.ref f_first_row)))
    (l_gives : K.lookup f_gives = some ⟨oc_gives, od_gives, .func (PySem.W.fnOf "gives" "gives" (defArgs s_gives) (defBody s_gives) (defScope s_gives) .none kV_gives dc_gives pm_gives an_gives cd_gives ct_gives), sl_gives⟩)
    (y_gives : PySem.W.codeIn K cd_gives "gives" = true)
    (k_gives : PySem.W.keepIn K (.ref f_gives) = true)
    (n_gives_at : PySem.W.nsIn K mainGlobals "gives" = some (some (.ref f_gives)))
    (l_serving : K.lookup f_serving = some ⟨oc_serving, od_serving, .func (PySem.W.fnOf "serving" "serving" (defArgs s_serving) (defBody s_serving) (defScope s_serving) .none kV_serving dc_serving pm_serving an_serving cd_serving ct_serving), sl_serving⟩)
    (y_serving : PySem.W.codeIn K cd_serving "serving" = true)
    (k_serving : PySem.W.keepIn K (.ref f_serving) = true)
    (n_serving_at : PySem.W.nsIn K mainGlobals "serving" = some (some (.ref f_serving)))
    (l_answer_along : K.lookup f_answer_along = some ⟨oc_answer_along, od_answer_along, .func (PySem.W.fnOf "answer_along" "answer_along" (defArgs s_answer_along) (defBody s_answer_along) (defScope s_answer_along) .none kV_answer_along dc_answer_along pm_answer_along an_answer_along cd_answer_along ct_answer_along), sl_answer_along⟩)
    (y_answer_along : PySem.W.codeIn K cd_answer_along "answer_along" = true)
    (k_answer_along : PySem.W.keepIn K (.ref f_answer_along) = true)
    (n_answer_along_at : PySem.W.nsIn K mainGlobals "answer_along" = some (some (.ref f_answer_along)))
    (l_unbound_answer : K.lookup f_unbound_answer = some ⟨oc_unbound_answer, od_unbound_answer, .func (PySem.W.fnOf "unbound_answer" "unbound_answer" (defArgs s_unbound_answer) (defBody s_unbound_answer) (defScope s_unbound_answer) .none kV_unbound_answer dc_unbound_answer pm_unbound_answer an_unbound_answer cd_unbound_answer ct_unbound_answer), sl_unbound_answer⟩)
    (y_unbound_answer : PySem.W.codeIn K cd_unbound_answer "unbound_answer" = true)
    (k_unbound_answer : PySem.W.keepIn K (.ref f_unbound_answer) = true)
    (n_unbound_answer_at : PySem.W.nsIn K mainGlobals "unbound_answer" = some (some (.ref f_unbound_answer)))
    (l_serves : K.lookup f_serves = some ⟨oc_serves, od_serves, .func (PySem.W.fnOf "serves" "serves" (defArgs s_serves) (defBody s_serves) (defScope s_serves) .none kV_serves dc_serves pm_serves an_serves cd_serves ct_serves), sl_serves⟩)
    (y_serves : PySem.W.codeIn K cd_serves "serves" = true)
    (k_serves : PySem.W.keepIn K (.ref f_serves) = true)
    (n_serves_at : PySem.W.nsIn K mainGlobals "serves" = some (some (.ref f_serves)))
    (l_lib_named : K.lookup f_lib_named = some ⟨oc_lib_named, od_lib_named, .func (PySem.W.fnOf "lib_named" "lib_named" (defArgs s_lib_named) (defBody s_lib_named) (defScope s_lib_named) .none kV_lib_named dc_lib_named pm_lib_named an_lib_named cd_lib_named ct_lib_named), sl_lib_named⟩)
    (y_lib_named : PySem.W.codeIn K cd_lib_named "lib_named" = true)
    (k_lib_named : PySem.W.keepIn K (.ref f_lib_named) = true)
    (n_lib_named_at : PySem.W.nsIn K mainGlobals "lib_named" = some (some (.ref f_lib_named)))
    (l_use_in : K.lookup f_use_in = some ⟨oc_use_in, od_use_in, .func (PySem.W.fnOf "use_in" "use_in" (defArgs s_use_in) (defBody s_use_in) (defScope s_use_in) .none kV_use_in dc_use_in pm_use_in an_use_in cd_use_in ct_use_in), sl_use_in⟩)
    (y_use_in : PySem.W.codeIn K cd_use_in "use_in" = true)
    (k_use_in : PySem.W.keepIn K (.ref f_use_in) = true)
    (n_use_in_at : PySem.W.nsIn K mainGlobals "use_in" = some (some (.ref f_use_in)))
    (l_add_new : K.lookup f_add_new = some ⟨oc_add_new, od_add_new, .func (PySem.W.fnOf "add_new" "add_new" (defArgs s_add_new) (defBody s_add_new) (defScope s_add_new) .none kV_add_new dc_add_new pm_add_new an_add_new cd_add_new ct_add_new), sl_add_new⟩)
    (y_add_new : PySem.W.codeIn K cd_add_new "add_new" = true)
    (k_add_new : PySem.W.keepIn K (.ref f_add_new) = true)
    (n_add_new_at : PySem.W.nsIn K mainGlobals "add_new" = some (some (.ref f_add_new)))
    (n_L_at : PySem.W.nsIn K mainGlobals "Layout" = some (some (.ref C_L)))
    (pg_L : PySem.W.plainGet K C_L Str.empty = true)
    (hd_L : PySem.W.hasDictIn K C_L = true)
    (po_L : PySem.W.plainOver K C_L = true)
    (sa_L : PySem.W.findIn K (.ref C_L) "__setattr__" = some (some (.builtin "object.__setattr__")))
    (l_L_init : K.lookup f_L_init = some ⟨oc_L_init, od_L_init, .func (PySem.W.fnOf "__init__" "Layout.__init__" (defArgs s_L_init) (defBody s_L_init) (defScope s_L_init) (.ref TD_L_init) kV_L_init dc_L_init pm_L_init an_L_init cd_L_init ct_L_init), sl_L_init⟩)
    (y_L_init : PySem.W.codeIn K cd_L_init "Layout.__init__" = true)
    (k_L_init : PySem.W.keepIn K (.ref f_L_init) = true)
    (v_L_init : K.lookup TD_L_init = some ⟨.type "tuple", xo_L_init, .seq #[.none, .none] xn_L_init, xs_L_init⟩)
    (mk_L : PySem.W.makesIn K C_L = true)
    (in_L : PySem.W.findIn K (.ref C_L) "__init__" = some (some (.ref f_L_init)))
    (if_L : PySem.W.isFn K (.ref f_L_init) = true)
    (kc_L : PySem.W.keepIn K (.ref C_L) = true)
    (l_among : K.lookup f_among = some ⟨oc_among, od_among, .func (PySem.W.fnOf "among" "among" (defArgs s_among) (defBody s_among) (defScope s_among) .none kV_among dc_among pm_among an_among cd_among ct_among), sl_among⟩)
    (y_among : PySem.W.codeIn K cd_among "among" = true)
    (k_among : PySem.W.keepIn K (.ref f_among) = true)
    (n_among_at : PySem.W.nsIn K mainGlobals "among" = some (some (.ref f_among)))
    (l_first_base : K.lookup f_first_base = some ⟨oc_first_base, od_first_base, .func (PySem.W.fnOf "first_base" "first_base" (defArgs s_first_base) (defBody s_first_base) (defScope s_first_base) .none kV_first_base dc_first_base pm_first_base an_first_base cd_first_base ct_first_base), sl_first_base⟩)
    (y_first_base : PySem.W.codeIn K cd_first_base "first_base" = true)
    (k_first_base : PySem.W.keepIn K (.ref f_first_base) = true)
    (n_first_base_at : PySem.W.nsIn K mainGlobals "first_base" = some (some (.ref f_first_base)))
    (l_opened_base : K.lookup f_opened_base = some ⟨oc_opened_base, od_opened_base, .func (PySem.W.fnOf "opened_base" "opened_base" (defArgs s_opened_base) (defBody s_opened_base) (defScope s_opened_base) .none kV_opened_base dc_opened_base pm_opened_base an_opened_base cd_opened_base ct_opened_base), sl_opened_base⟩)
    (y_opened_base : PySem.W.codeIn K cd_opened_base "opened_base" = true)
    (k_opened_base : PySem.W.keepIn K (.ref f_opened_base) = true)
    (n_opened_base_at : PySem.W.nsIn K mainGlobals "opened_base" = some (some (.ref f_opened_base)))
    (l_closed_base : K.lookup f_closed_base = some ⟨oc_closed_base, od_closed_base, .func (PySem.W.fnOf "closed_base" "closed_base" (defArgs s_closed_base) (defBody s_closed_base) (defScope s_closed_base) .none kV_closed_base dc_closed_base pm_closed_base an_closed_base cd_closed_base ct_closed_base), sl_closed_base⟩)
    (y_closed_base : PySem.W.codeIn K cd_closed_base "closed_base" = true)
    (k_closed_base : PySem.W.keepIn K (.ref f_closed_base) = true)
    (n_closed_base_at : PySem.W.nsIn K mainGlobals "closed_base" = some (some (.ref f_closed_base)))
    (l_opening : K.lookup f_opening = some ⟨oc_opening, od_opening, .func (PySem.W.fnOf "opening" "opening" (defArgs s_opening) (defBody s_opening) (defScope s_opening) .none kV_opening dc_opening pm_opening an_opening cd_opening ct_opening), sl_opening⟩)
    (y_opening : PySem.W.codeIn K cd_opening "opening" = true)
    (k_opening : PySem.W.keepIn K (.ref f_opening) = true)
    (n_opening_at : PySem.W.nsIn K mainGlobals "opening" = some (some (.ref f_opening)))
    (l_closing : K.lookup f_closing = some ⟨oc_closing, od_closing, .func (PySem.W.fnOf "closing" "closing" (defArgs s_closing) (defBody s_closing) (defScope s_closing) .none kV_closing dc_closing pm_closing an_closing cd_closing ct_closing), sl_closing⟩)
    (y_closing : PySem.W.codeIn K cd_closing "closing" = true)
    (k_closing : PySem.W.keepIn K (.ref f_closing) = true)
    (n_closing_at : PySem.W.nsIn K mainGlobals "closing" = some (some (.ref f_closing)))
    (l_changed_base : K.lookup f_changed_base = some ⟨oc_changed_base, od_changed_base, .func (PySem.W.fnOf "changed_base" "changed_base" (defArgs s_changed_base) (defBody s_changed_base) (defScope s_changed_base) .none kV_changed_base dc_changed_base pm_changed_base an_changed_base cd_changed_base ct_changed_base), sl_changed_base⟩)
    (y_changed_base : PySem.W.codeIn K cd_changed_base "changed_base" = true)
    (k_changed_base : PySem.W.keepIn K (.ref f_changed_base) = true)
    (n_changed_base_at : PySem.W.nsIn K mainGlobals "changed_base" = some (some (.ref f_changed_base)))
    (l_with_count : K.lookup f_with_count = some ⟨oc_with_count, od_with_count, .func (PySem.W.fnOf "with_count" "with_count" (defArgs s_with_count) (defBody s_with_count) (defScope s_with_count) .none kV_with_count dc_with_count pm_with_count an_with_count cd_with_count ct_with_count), sl_with_count⟩)
    (y_with_count : PySem.W.codeIn K cd_with_count "with_count" = true)
    (k_with_count : PySem.W.keepIn K (.ref f_with_count) = true)
    (n_with_count_at : PySem.W.nsIn K mainGlobals "with_count" = some (some (.ref f_with_count)))
    (l_names_there : K.lookup f_names_there = some ⟨oc_names_there, od_names_there, .func (PySem.W.fnOf "names_there" "names_there" (defArgs s_names_there) (defBody s_names_there) (defScope s_names_there) .none kV_names_there dc_names_there pm_names_there an_names_there cd_names_there ct_names_there), sl_names_there⟩)
    (y_names_there : PySem.W.codeIn K cd_names_there "names_there" = true)
    (k_names_there : PySem.W.keepIn K (.ref f_names_there) = true)
    (n_names_there_at : PySem.W.nsIn K mainGlobals "names_there" = some (some (.ref f_names_there)))
    (l_looks_along : K.lookup f_looks_along = some ⟨oc_looks_along, od_looks_along, .func (PySem.W.fnOf "looks_along" "looks_along" (defArgs s_looks_along) (defBody s_looks_along) (defScope s_looks_along) .none kV_looks_along dc_looks_along pm_looks_along an_looks_along cd_looks_along ct_looks_along), sl_looks_along⟩)
    (y_looks_along : PySem.W.codeIn K cd_looks_along "looks_along" = true)
    (k_looks_along : PySem.W.keepIn K (.ref f_looks_along) = true)
    (n_looks_along_at : PySem.W.nsIn K mainGlobals "looks_along" = some (some (.ref f_looks_along)))
    (n_P_at : PySem.W.nsIn K mainGlobals "Process" = some (some (.ref C_P)))
    (pg_P : PySem.W.plainGet K C_P Str.empty = true)
    (hd_P : PySem.W.hasDictIn K C_P = true)
    (po_P : PySem.W.plainOver K C_P = true)
    (sa_P : PySem.W.findIn K (.ref C_P) "__setattr__" = some (some (.builtin "object.__setattr__")))
    (l_P_init : K.lookup f_P_init = some ⟨oc_P_init, od_P_init, .func (PySem.W.fnOf "__init__" "Process.__init__" (defArgs s_P_init) (defBody s_P_init) (defScope s_P_init) .none kV_P_init dc_P_init pm_P_init an_P_init cd_P_init ct_P_init), sl_P_init⟩)
    (y_P_init : PySem.W.codeIn K cd_P_init "Process.__init__" = true)
    (k_P_init : PySem.W.keepIn K (.ref f_P_init) = true)
    (mk_P : PySem.W.makesIn K C_P = true)
    (in_P : PySem.W.findIn K (.ref C_P) "__init__" = some (some (.ref f_P_init)))
    (if_P : PySem.W.isFn K (.ref f_P_init) = true)
    (kc_P : PySem.W.keepIn K (.ref C_P) = true)
    (l_P_open_door : K.lookup f_P_open_door = some ⟨oc_P_open_door, od_P_open_door, .func (PySem.W.fnOf "open_door" "Process.open_door" (defArgs s_P_open_door) (defBody s_P_open_door) (defScope s_P_open_door) .none kV_P_open_door dc_P_open_door pm_P_open_door an_P_open_door cd_P_open_door ct_P_open_door), sl_P_open_door⟩)
    (y_P_open_door : PySem.W.codeIn K cd_P_open_door "Process.open_door" = true)
    (k_P_open_door : PySem.W.keepIn K (.ref f_P_open_door) = true)
    (at_P_open_door : PySem.W.findIn K (.ref C_P) "open_door" = some (some (.ref f_P_open_door)))
    (fn_P_open_door : PySem.W.isFn K (.ref f_P_open_door) = true)
    (l_P_close_door : K.lookup f_P_close_door = some ⟨oc_P_close_door, od_P_close_door, .func (PySem.W.fnOf "close_door" "Process.close_door" (defArgs s_P_close_door) (defBody s_P_close_door) (defScope s_P_close_door) .none kV_P_close_door dc_P_close_door pm_P_close_door an_P_close_door cd_P_close_door ct_P_close_door), sl_P_close_door⟩)
    (y_P_close_door : PySem.W.codeIn K cd_P_close_door "Process.close_door" = true)
    (k_P_close_door : PySem.W.keepIn K (.ref f_P_close_door) = true)
    (at_P_close_door : PySem.W.findIn K (.ref C_P) "close_door" = some (some (.ref f_P_close_door)))
    (fn_P_close_door : PySem.W.isFn K (.ref f_P_close_door) = true)
    (l_P_call : K.lookup f_P_call = some ⟨oc_P_call, od_P_call, .func (PySem.W.fnOf "call" "Process.call" (defArgs s_P_call) (defBody s_P_call) (defScope s_P_call) .none kV_P_call dc_P_call pm_P_call an_P_call cd_P_call ct_P_call), sl_P_call⟩)
    (y_P_call : PySem.W.codeIn K cd_P_call "Process.call" = true)
    (k_P_call : PySem.W.keepIn K (.ref f_P_call) = true)
    (at_P_call : PySem.W.findIn K (.ref C_P) "call" = some (some (.ref f_P_call)))
    (fn_P_call : PySem.W.isFn K (.ref f_P_call) = true)
    (l_P_do : K.lookup f_P_do = some ⟨oc_P_do, od_P_do, .func (PySem.W.fnOf "do" "Process.do" (defArgs s_P_do) (defBody s_P_do) (defScope s_P_do) .none kV_P_do dc_P_do pm_P_do an_P_do cd_P_do ct_P_do), sl_P_do⟩)
    (y_P_do : PySem.W.codeIn K cd_P_do "Process.do" = true)
    (k_P_do : PySem.W.keepIn K (.ref f_P_do) = true)
    (at_P_do : PySem.W.findIn K (.ref C_P) "do" = some (some (.ref f_P_do)))
    (fn_P_do : PySem.W.isFn K (.ref f_P_do) = true)
    (l_P_counts : K.lookup f_P_counts = some ⟨oc_P_counts, od_P_counts, .func (PySem.W.fnOf "counts" "Process.counts" (defArgs s_P_counts) (defBody s_P_counts) (defScope s_P_counts) .none kV_P_counts dc_P_counts pm_P_counts an_P_counts cd_P_counts ct_P_counts), sl_P_counts⟩)
    (y_P_counts : PySem.W.codeIn K cd_P_counts "Process.counts" = true)
    (k_P_counts : PySem.W.keepIn K (.ref f_P_counts) = true)
    (at_P_counts : PySem.W.findIn K (.ref C_P) "counts" = some (some (.ref f_P_counts)))
    (fn_P_counts : PySem.W.isFn K (.ref f_P_counts) = true)
    (l_P_opened : K.lookup f_P_opened = some ⟨oc_P_opened, od_P_opened, .func (PySem.W.fnOf "opened" "Process.opened" (defArgs s_P_opened) (defBody s_P_opened) (defScope s_P_opened) .none kV_P_opened dc_P_opened pm_P_opened an_P_opened cd_P_opened ct_P_opened), sl_P_opened⟩)
    (y_P_opened : PySem.W.codeIn K cd_P_opened "Process.opened" = true)
    (k_P_opened : PySem.W.keepIn K (.ref f_P_opened) = true)
    (at_P_opened : PySem.W.findIn K (.ref C_P) "opened" = some (some (.ref f_P_opened)))
    (fn_P_opened : PySem.W.isFn K (.ref f_P_opened) = true)
    (l_P_there : K.lookup f_P_there = some ⟨oc_P_there, od_P_there, .func (PySem.W.fnOf "there" "Process.there" (defArgs s_P_there) (defBody s_P_there) (defScope s_P_there) .none kV_P_there dc_P_there pm_P_there an_P_there cd_P_there ct_P_there), sl_P_there⟩)
    (y_P_there : PySem.W.codeIn K cd_P_there "Process.there" = true)
    (k_P_there : PySem.W.keepIn K (.ref f_P_there) = true)
    (at_P_there : PySem.W.findIn K (.ref C_P) "there" = some (some (.ref f_P_there)))
    (fn_P_there : PySem.W.isFn K (.ref f_P_there) = true)
    (l_P_public : K.lookup f_P_public = some ⟨oc_P_public, od_P_public, .func (PySem.W.fnOf "public" "Process.public" (defArgs s_P_public) (defBody s_P_public) (defScope s_P_public) .none kV_P_public dc_P_public pm_P_public an_P_public cd_P_public ct_P_public), sl_P_public⟩)
    (y_P_public : PySem.W.codeIn K cd_P_public "Process.public" = true)
    (k_P_public : PySem.W.keepIn K (.ref f_P_public) = true)
    (at_P_public : PySem.W.findIn K (.ref C_P) "public" = some (some (.ref f_P_public)))
    (fn_P_public : PySem.W.isFn K (.ref f_P_public) = true)
    (l_P_deep : K.lookup f_P_deep = some ⟨oc_P_deep, od_P_deep, .func (PySem.W.fnOf "deep" "Process.deep" (defArgs s_P_deep) (defBody s_P_deep) (defScope s_P_deep) .none kV_P_deep dc_P_deep pm_P_deep an_P_deep cd_P_deep ct_P_deep), sl_P_deep⟩)
    (y_P_deep : PySem.W.codeIn K cd_P_deep "Process.deep" = true)
    (k_P_deep : PySem.W.keepIn K (.ref f_P_deep) = true)
    (at_P_deep : PySem.W.findIn K (.ref C_P) "deep" = some (some (.ref f_P_deep)))
    (fn_P_deep : PySem.W.isFn K (.ref f_P_deep) = true)
    (l_P_looks : K.lookup f_P_looks = some ⟨oc_P_looks, od_P_looks, .func (PySem.W.fnOf "looks" "Process.looks" (defArgs s_P_looks) (defBody s_P_looks) (defScope s_P_looks) .none kV_P_looks dc_P_looks pm_P_looks an_P_looks cd_P_looks ct_P_looks), sl_P_looks⟩)
    (y_P_looks : PySem.W.codeIn K cd_P_looks "Process.looks" = true)
    (k_P_looks : PySem.W.keepIn K (.ref f_P_looks) = true)
    (at_P_looks : PySem.W.findIn K (.ref C_P) "looks" = some (some (.ref f_P_looks)))
    (fn_P_looks : PySem.W.isFn K (.ref f_P_looks) = true)
    (l_P_slot : K.lookup f_P_slot = some ⟨oc_P_slot, od_P_slot, .func (PySem.W.fnOf "slot" "Process.slot" (defArgs s_P_slot) (defBody s_P_slot) (defScope s_P_slot) .none kV_P_slot dc_P_slot pm_P_slot an_P_slot cd_P_slot ct_P_slot), sl_P_slot⟩)
    (y_P_slot : PySem.W.codeIn K cd_P_slot "Process.slot" = true)
    (k_P_slot : PySem.W.keepIn K (.ref f_P_slot) = true)
    (at_P_slot : PySem.W.findIn K (.ref C_P) "slot" = some (some (.ref f_P_slot)))
    (fn_P_slot : PySem.W.isFn K (.ref f_P_slot) = true)
    (l_P_stand : K.lookup f_P_stand = some ⟨oc_P_stand, od_P_stand, .func (PySem.W.fnOf "stand" "Process.stand" (defArgs s_P_stand) (defBody s_P_stand) (defScope s_P_stand) .none kV_P_stand dc_P_stand pm_P_stand an_P_stand cd_P_stand ct_P_stand), sl_P_stand⟩)
    (y_P_stand : PySem.W.codeIn K cd_P_stand "Process.stand" = true)
    (k_P_stand : PySem.W.keepIn K (.ref f_P_stand) = true)
    (at_P_stand : PySem.W.findIn K (.ref C_P) "stand" = some (some (.ref f_P_stand)))
    (fn_P_stand : PySem.W.isFn K (.ref f_P_stand) = true)
    (l_P_count : K.lookup f_P_count = some ⟨oc_P_count, od_P_count, .func (PySem.W.fnOf "_count" "Process._count" (defArgs s_P_count) (defBody s_P_count) (defScope s_P_count) .none kV_P_count dc_P_count pm_P_count an_P_count cd_P_count ct_P_count), sl_P_count⟩)
    (y_P_count : PySem.W.codeIn K cd_P_count "Process._count" = true)
    (k_P_count : PySem.W.keepIn K (.ref f_P_count) = true)
    (at_P_count : PySem.W.findIn K (.ref C_P) "_count" = some (some (.ref f_P_count)))
    (fn_P_count : PySem.W.isFn K (.ref f_P_count) = true)
    (l_P_lib_there : K.lookup f_P_lib_there = some ⟨oc_P_lib_there, od_P_lib_there, .func (PySem.W.fnOf "_lib_there" "Process._lib_there" (defArgs s_P_lib_there) (defBody s_P_lib_there) (defScope s_P_lib_there) .none kV_P_lib_there dc_P_lib_there pm_P_lib_there an_P_lib_there cd_P_lib_there ct_P_lib_there), sl_P_lib_there⟩)
    (y_P_lib_there : PySem.W.codeIn K cd_P_lib_there "Process._lib_there" = true)
    (k_P_lib_there : PySem.W.keepIn K (.ref f_P_lib_there) = true)
    (at_P_lib_there : PySem.W.findIn K (.ref C_P) "_lib_there" = some (some (.ref f_P_lib_there)))
    (fn_P_lib_there : PySem.W.isFn K (.ref f_P_lib_there) = true)
    (l_slots_left : K.lookup f_slots_left = some ⟨oc_slots_left, od_slots_left, .func (PySem.W.fnOf "slots_left" "slots_left" (defArgs s_slots_left) (defBody s_slots_left) (defScope s_slots_left) .none kV_slots_left dc_slots_left pm_slots_left an_slots_left cd_slots_left ct_slots_left), sl_slots_left⟩)
    (y_slots_left : PySem.W.codeIn K cd_slots_left "slots_left" = true)
    (k_slots_left : PySem.W.keepIn K (.ref f_slots_left) = true)
    (n_slots_left_at : PySem.W.nsIn K mainGlobals "slots_left" = some (some (.ref f_slots_left)))
    (l_answer_left : K.lookup f_answer_left = some ⟨oc_answer_left, od_answer_left, .func (PySem.W.fnOf "answer_left" "answer_left" (defArgs s_answer_left) (defBody s_answer_left) (defScope s_answer_left) .none kV_answer_left dc_answer_left pm_answer_left an_answer_left cd_answer_left ct_answer_left), sl_answer_left⟩)
    (y_answer_left : PySem.W.codeIn K cd_answer_left "answer_left" = true)
    (k_answer_left : PySem.W.keepIn K (.ref f_answer_left) = true)
    (n_answer_left_at : PySem.W.nsIn K mainGlobals "answer_left" = some (some (.ref f_answer_left)))
    (l_cell_at : K.lookup f_cell_at = some ⟨oc_cell_at, od_cell_at, .func (PySem.W.fnOf "_law_cell_at" "_law_cell_at" (defArgs s_cell_at) (defBody s_cell_at) (defScope s_cell_at) .none kV_cell_at dc_cell_at pm_cell_at an_cell_at cd_cell_at ct_cell_at), sl_cell_at⟩)
    (y_cell_at : PySem.W.codeIn K cd_cell_at "_law_cell_at" = true)
    (k_cell_at : PySem.W.keepIn K (.ref f_cell_at) = true)
    (n_cell_at_at : PySem.W.nsIn K mainGlobals "_law_cell_at" = some (some (.ref f_cell_at)))
    (l_box : K.lookup f_box = some ⟨oc_box, od_box, .func (PySem.W.fnOf "_law_box" "_law_box" (defArgs s_box) (defBody s_box) (defScope s_box) .none kV_box dc_box pm_box an_box cd_box ct_box), sl_box⟩)
    (y_box : PySem.W.codeIn K cd_box "_law_box" = true)
    (k_box : PySem.W.keepIn K (.ref f_box) = true)
    (n_box_at : PySem.W.nsIn K mainGlobals "_law_box" = some (some (.ref f_box)))
    (l_take : K.lookup f_take = some ⟨oc_take, od_take, .func (PySem.W.fnOf "_law_take" "_law_take" (defArgs s_take) (defBody s_take) (defScope s_take) .none kV_take dc_take pm_take an_take cd_take ct_take), sl_take⟩)
    (y_take : PySem.W.codeIn K cd_take "_law_take" = true)
    (k_take : PySem.W.keepIn K (.ref f_take) = true)
    (n_take_at : PySem.W.nsIn K mainGlobals "_law_take" = some (some (.ref f_take)))
    (l_pick : K.lookup f_pick = some ⟨oc_pick, od_pick, .func (PySem.W.fnOf "_law_pick" "_law_pick" (defArgs s_pick) (defBody s_pick) (defScope s_pick) .none kV_pick dc_pick pm_pick an_pick cd_pick ct_pick), sl_pick⟩)
    (y_pick : PySem.W.codeIn K cd_pick "_law_pick" = true)
    (k_pick : PySem.W.keepIn K (.ref f_pick) = true)
    (n_pick_at : PySem.W.nsIn K mainGlobals "_law_pick" = some (some (.ref f_pick)))
    (l_same : K.lookup f_same = some ⟨oc_same, od_same, .func (PySem.W.fnOf "_law_same" "_law_same" (defArgs s_same) (defBody s_same) (defScope s_same) .none kV_same dc_same pm_same an_same cd_same ct_same), sl_same⟩)
    (y_same : PySem.W.codeIn K cd_same "_law_same" = true)
    (k_same : PySem.W.keepIn K (.ref f_same) = true)
    (n_same_at : PySem.W.nsIn K mainGlobals "_law_same" = some (some (.ref f_same)))
    (l_names : K.lookup f_names = some ⟨oc_names, od_names, .func (PySem.W.fnOf "_law_names" "_law_names" (defArgs s_names) (defBody s_names) (defScope s_names) .none kV_names dc_names pm_names an_names cd_names ct_names), sl_names⟩)
    (y_names : PySem.W.codeIn K cd_names "_law_names" = true)
    (k_names : PySem.W.keepIn K (.ref f_names) = true)
    (n_names_at : PySem.W.nsIn K mainGlobals "_law_names" = some (some (.ref f_names)))
    (l_some : K.lookup f_some = some ⟨oc_some, od_some, .func (PySem.W.fnOf "_law_some" "_law_some" (defArgs s_some) (defBody s_some) (defScope s_some) .none kV_some dc_some pm_some an_some cd_some ct_some), sl_some⟩)
    (y_some : PySem.W.codeIn K cd_some "_law_some" = true)
    (k_some : PySem.W.keepIn K (.ref f_some) = true)
    (n_some_at : PySem.W.nsIn K mainGlobals "_law_some" = some (some (.ref f_some)))
    (l_pairs : K.lookup f_pairs = some ⟨oc_pairs, od_pairs, .func (PySem.W.fnOf "_law_pairs" "_law_pairs" (defArgs s_pairs) (defBody s_pairs) (defScope s_pairs) .none kV_pairs dc_pairs pm_pairs an_pairs cd_pairs ct_pairs), sl_pairs⟩)
    (y_pairs : PySem.W.codeIn K cd_pairs "_law_pairs" = true)
    (k_pairs : PySem.W.keepIn K (.ref f_pairs) = true)
    (n_pairs_at : PySem.W.nsIn K mainGlobals "_law_pairs" = some (some (.ref f_pairs)))
    (l_lib : K.lookup f_lib = some ⟨oc_lib, od_lib, .func (PySem.W.fnOf "_law_lib" "_law_lib" (defArgs s_lib) (defBody s_lib) (defScope s_lib) .none kV_lib dc_lib pm_lib an_lib cd_lib ct_lib), sl_lib⟩)
    (y_lib : PySem.W.codeIn K cd_lib "_law_lib" = true)
    (k_lib : PySem.W.keepIn K (.ref f_lib) = true)
    (n_lib_at : PySem.W.nsIn K mainGlobals "_law_lib" = some (some (.ref f_lib)))
    (l_program : K.lookup f_program = some ⟨oc_program, od_program, .func (PySem.W.fnOf "_law_program" "_law_program" (defArgs s_program) (defBody s_program) (defScope s_program) .none kV_program dc_program pm_program an_program cd_program ct_program), sl_program⟩)
    (y_program : PySem.W.codeIn K cd_program "_law_program" = true)
    (k_program : PySem.W.keepIn K (.ref f_program) = true)
    (n_program_at : PySem.W.nsIn K mainGlobals "_law_program" = some (some (.ref f_program)))
    (l_step : K.lookup f_step = some ⟨oc_step, od_step, .func (PySem.W.fnOf "_law_step" "_law_step" (defArgs s_step) (defBody s_step) (defScope s_step) .none kV_step dc_step pm_step an_step cd_step ct_step), sl_step⟩)
    (y_step : PySem.W.codeIn K cd_step "_law_step" = true)
    (k_step : PySem.W.keepIn K (.ref f_step) = true)
    (n_step_at : PySem.W.nsIn K mainGlobals "_law_step" = some (some (.ref f_step)))
    (l_tried : K.lookup f_tried = some ⟨oc_tried, od_tried, .func (PySem.W.fnOf "_law_tried" "_law_tried" (defArgs s_tried) (defBody s_tried) (defScope s_tried) .none kV_tried dc_tried pm_tried an_tried cd_tried ct_tried), sl_tried⟩)
    (y_tried : PySem.W.codeIn K cd_tried "_law_tried" = true)
    (k_tried : PySem.W.keepIn K (.ref f_tried) = true)
    (n_tried_at : PySem.W.nsIn K mainGlobals "_law_tried" = some (some (.ref f_tried)))
    (l_image : K.lookup f_image = some ⟨oc_image, od_image, .func (PySem.W.fnOf "_law_image" "_law_image" (defArgs s_image) (defBody s_image) (defScope s_image) .none kV_image dc_image pm_image an_image cd_image ct_image), sl_image⟩)
    (y_image : PySem.W.codeIn K cd_image "_law_image" = true)
    (k_image : PySem.W.keepIn K (.ref f_image) = true)
    (n_image_at : PySem.W.nsIn K mainGlobals "_law_image" = some (some (.ref f_image)))
    (l_right : K.lookup f_right = some ⟨oc_right, od_right, .func (PySem.W.fnOf "_law_right" "_law_right" (defArgs s_right) (defBody s_right) (defScope s_right) .none kV_right dc_right pm_right an_right cd_right ct_right), sl_right⟩)
    (y_right : PySem.W.codeIn K cd_right "_law_right" = true)
    (k_right : PySem.W.keepIn K (.ref f_right) = true)
    (n_right_at : PySem.W.nsIn K mainGlobals "_law_right" = some (some (.ref f_right)))
    (l_law : K.lookup f_law = some ⟨oc_law, od_law, .func (PySem.W.fnOf "law" "law" (defArgs s_law) (defBody s_law) (defScope s_law) .none kV_law dc_law pm_law an_law cd_law ct_law), sl_law⟩)
    (y_law : PySem.W.codeIn K cd_law "law" = true)
    (k_law : PySem.W.keepIn K (.ref f_law) = true)
    (n_law_at : PySem.W.nsIn K mainGlobals "law" = some (some (.ref f_law)))
    (na_L_first : PySem.W.findIn K (.ref C_L) "first" = some none)
    (na_L_rows : PySem.W.findIn K (.ref C_L) "rows" = some none)
    (na_L_first_seen : PySem.W.findIn K (.ref C_L) "first_seen" = some none)
    (na_L_rows_seen : PySem.W.findIn K (.ref C_L) "rows_seen" = some none)
    (na_L_into_public : PySem.W.findIn K (.ref C_L) "into_public" = some none)
    (na_L_into_deep : PySem.W.findIn K (.ref C_L) "into_deep" = some none)
    (na_P_program : PySem.W.findIn K (.ref C_P) "_program" = some none)
    (na_P_layout : PySem.W.findIn K (.ref C_P) "_layout" = some none)
    (na_P_base : PySem.W.findIn K (.ref C_P) "_base" = some none)
    (na_P_slots : PySem.W.findIn K (.ref C_P) "_slots" = some none)
    (z_abs : PySem.W.nsIn K mainGlobals "abs" = some none)
    (z_all : PySem.W.nsIn K mainGlobals "all" = some none)
    (z_bool : PySem.W.nsIn K mainGlobals "bool" = some none)
    (z_int : PySem.W.nsIn K mainGlobals "int" = some none)
    (z_isinstance : PySem.W.nsIn K mainGlobals "isinstance" = some none)
    (z_len : PySem.W.nsIn K mainGlobals "len" = some none)
    (z_list : PySem.W.nsIn K mainGlobals "list" = some none)
    (z_min : PySem.W.nsIn K mainGlobals "min" = some none)
    (z_range : PySem.W.nsIn K mainGlobals "range" = some none)
    (z_repr : PySem.W.nsIn K mainGlobals "repr" = some none)
    (z_set : PySem.W.nsIn K mainGlobals "set" = some none)
    (z_sorted : PySem.W.nsIn K mainGlobals "sorted" = some none)
    (z_str : PySem.W.nsIn K mainGlobals "str" = some none)
    (z_tuple : PySem.W.nsIn K mainGlobals "tuple" = some none)
    (ic1 : cd_serving = .ref cS1)
    (ih1 : PySem.W.codeHdIn K cS1 138 = true)
    (tb1 : ((138 : Addr), fun _ _ => ("serving" ++ ".<locals>." ++ "<lambda>" : Str)) ∈ Tabbed.T)
    (on1 : ∀ p ∈ Tabbed.T, p.1 = (138 : Addr) → p.2 = fun _ _ => ("serving" ++ ".<locals>." ++ "<lambda>" : Str))
    (z_mo : PySem.W.nsIn K mainGlobals "MOST_OPEN" = some (some (.int 2 t_mo)))
    (ga_nb : PySem.W.nsIn K mainGlobals "NOBODY" = some (some (.ref A_nb)))
    (gl_nb : K.lookup A_nb = some ⟨.type "tuple", o_nb, .seq #[.str "nobody" t_nb] u_nb, s_nb⟩)
    (ga_lo : PySem.W.nsIn K mainGlobals "LOST" = some (some (.ref A_lo)))
    (gl_lo : K.lookup A_lo = some ⟨.type "tuple", o_lo, .seq #[.str "lost" t_lo] u_lo, s_lo⟩)
    (ga_to : PySem.W.nsIn K mainGlobals "TORN" = some (some (.ref A_to)))
    (gl_to : K.lookup A_to = some ⟨.type "tuple", o_to, .seq #[.str "torn" t_to] u_to, s_to⟩) :
    ∃ fd : FuncData, (∀ (s : Shared) (v : Value), BindsTo s fd ⟨[v], []⟩ [("_law_script", v)]) ∧ ∀ base : Heap, K.In base → base.Ns mainGlobals mg → (∀ b, Tb b → base.BuiltinsAt mg b ∧ mainGlobals ≠ b) → FnG l.prog w K mg base 14 fa fd ["_law_script"] (spV K 1 tLaw) := by
  have e := hfa.symm.trans (PySem.W.mg_of X G n_law_at)
  cases e
  have F_is_below := fun_mk (st := s_is_below) l_is_below y_is_below k_is_below
  have B_is_below := F_is_below.binds (ps := ["thing", "limit"]) fun _ _ _ _ _ _ us hl => match us, hl with | [_, _], _ => rfl
  have F_frozen := fun_mk (st := s_frozen) l_frozen y_frozen k_frozen
  have B_frozen := F_frozen.binds (ps := ["value"]) fun _ _ _ _ _ _ us hl => match us, hl with | [_], _ => rfl
  have F_row := fun_mk (st := s_row) l_row y_row k_row
  have B_row := F_row.binds (ps := ["program", "names"]) fun _ _ _ _ _ _ us hl => match us, hl with | [_, _], _ => rfl
  have F_first_row := fun_mk (st := s_first_row) l_first_row y_first_row k_first_row
  have B_first_row := F_first_row.binds (ps := ["program"]) fun _ _ _ _ _ _ us hl => match us, hl with | [_], _ => rfl
  have F_gives := fun_mk (st := s_gives) l_gives y_gives k_gives
  have B_gives := F_gives.binds (ps := ["program", "name", "use"]) fun _ _ _ _ _ _ us hl => match us, hl with | [_, _, _], _ => rfl
  have F_serving := fun_mk (st := s_serving) l_serving y_serving k_serving
  have B_serving := F_serving.binds (ps := ["program", "name", "use"]) fun _ _ _ _ _ _ us hl => match us, hl with | [_, _, _], _ => rfl
  have F_answer_along := fun_mk (st := s_answer_along) l_answer_along y_answer_along k_answer_along
  have B_answer_along := F_answer_along.binds (ps := ["program", "along", "use"]) fun _ _ _ _ _ _ us hl => match us, hl with | [_, _, _], _ => rfl
  have F_unbound_answer := fun_mk (st := s_unbound_answer) l_unbound_answer y_unbound_answer k_unbound_answer
  have B_unbound_answer := F_unbound_answer.binds (ps := ["use"]) fun _ _ _ _ _ _ us hl => match us, hl with | [_], _ => rfl
  have F_serves := fun_mk (st := s_serves) l_serves y_serves k_serves
  have B_serves := F_serves.binds (ps := ["version", "wanted"]) fun _ _ _ _ _ _ us hl => match us, hl with | [_, _], _ => rfl
  have F_lib_named := fun_mk (st := s_lib_named) l_lib_named y_lib_named k_lib_named
  have B_lib_named := F_lib_named.binds (ps := ["program", "name"]) fun _ _ _ _ _ _ us hl => match us, hl with | [_, _], _ => rfl
  have F_use_in := fun_mk (st := s_use_in) l_use_in y_use_in k_use_in
  have B_use_in := F_use_in.binds (ps := ["lib", "i"]) fun _ _ _ _ _ _ us hl => match us, hl with | [_, _], _ => rfl
  have F_add_new := fun_mk (st := s_add_new) l_add_new y_add_new k_add_new
  have B_add_new := F_add_new.binds (ps := ["found", "names"]) fun _ _ _ _ _ _ us hl => match us, hl with | [_, _], _ => rfl
  have F_L_init : L2.FunD K "__init__" "Layout.__init__" (defArgs s_L_init) (defBody s_L_init) (defScope s_L_init) [.non, .non] [] f_L_init _ := ⟨⟨oc_L_init, od_L_init, _, kV_L_init, dc_L_init, pm_L_init, an_L_init, cd_L_init, ct_L_init, sl_L_init, rfl, l_L_init, y_L_init, .inr ⟨List.cons_ne_nil _ _, TD_L_init, _, [.none, .none], xn_L_init, rfl, v_L_init, rfl, .cons rfl (.cons rfl .nil)⟩, .inl rfl⟩, k_L_init⟩
  have B_L_init := two_none F_L_init (ps := ["self", "program", "public", "deep"]) rfl fun T kV doc pm an cdv ct us its h1 h2 => match us, its, h1, h2 with | [_, _], [_, _], _, _ => ⟨_, rfl, rfl⟩
  have F_among := fun_mk (st := s_among) l_among y_among k_among
  have B_among := F_among.binds (ps := ["names", "wanted"]) fun _ _ _ _ _ _ us hl => match us, hl with | [_, _], _ => rfl
  have F_first_base := fun_mk (st := s_first_base) l_first_base y_first_base k_first_base
  have B_first_base := F_first_base.binds (ps := ["layout"]) fun _ _ _ _ _ _ us hl => match us, hl with | [_], _ => rfl
  have F_opened_base := fun_mk (st := s_opened_base) l_opened_base y_opened_base k_opened_base
  have B_opened_base := F_opened_base.binds (ps := ["layout", "base", "k"]) fun _ _ _ _ _ _ us hl => match us, hl with | [_, _, _], _ => rfl
  have F_closed_base := fun_mk (st := s_closed_base) l_closed_base y_closed_base k_closed_base
  have B_closed_base := F_closed_base.binds (ps := ["layout", "base", "k"]) fun _ _ _ _ _ _ us hl => match us, hl with | [_, _, _], _ => rfl
  have F_opening := fun_mk (st := s_opening) l_opening y_opening k_opening
  have B_opening := F_opening.binds (ps := ["layout", "counts", "order", "k"]) fun _ _ _ _ _ _ us hl => match us, hl with | [_, _, _, _], _ => rfl
  have F_closing := fun_mk (st := s_closing) l_closing y_closing k_closing
  have B_closing := F_closing.binds (ps := ["layout", "counts", "order", "k"]) fun _ _ _ _ _ _ us hl => match us, hl with | [_, _, _, _], _ => rfl
  have F_changed_base := fun_mk (st := s_changed_base) l_changed_base y_changed_base k_changed_base
  have B_changed_base := F_changed_base.binds (ps := ["base", "change"]) fun _ _ _ _ _ _ us hl => match us, hl with | [_, _], _ => rfl
  have F_with_count := fun_mk (st := s_with_count) l_with_count y_with_count k_with_count
  have B_with_count := F_with_count.binds (ps := ["counts", "k", "count"]) fun _ _ _ _ _ _ us hl => match us, hl with | [_, _, _], _ => rfl
  have F_names_there := fun_mk (st := s_names_there) l_names_there y_names_there k_names_there
  have B_names_there := F_names_there.binds (ps := ["layout", "order"]) fun _ _ _ _ _ _ us hl => match us, hl with | [_, _], _ => rfl
  have F_looks_along := fun_mk (st := s_looks_along) l_looks_along y_looks_along k_looks_along
  have B_looks_along := F_looks_along.binds (ps := ["layout", "base", "name"]) fun _ _ _ _ _ _ us hl => match us, hl with | [_, _, _], _ => rfl
  have F_P_init := fun_mk (st := s_P_init) l_P_init y_P_init k_P_init
  have B_P_init := F_P_init.binds (ps := ["self", "program"]) fun _ _ _ _ _ _ us hl => match us, hl with | [_, _], _ => rfl
  have F_P_open_door := fun_mk (st := s_P_open_door) l_P_open_door y_P_open_door k_P_open_door
  have B_P_open_door := F_P_open_door.binds (ps := ["self", "k"]) fun _ _ _ _ _ _ us hl => match us, hl with | [_, _], _ => rfl
  have F_P_close_door := fun_mk (st := s_P_close_door) l_P_close_door y_P_close_door k_P_close_door
  have B_P_close_door := F_P_close_door.binds (ps := ["self", "k"]) fun _ _ _ _ _ _ us hl => match us, hl with | [_, _], _ => rfl
  have F_P_call := fun_mk (st := s_P_call) l_P_call y_P_call k_P_call
  have B_P_call := F_P_call.binds (ps := ["self", "name", "i"]) fun _ _ _ _ _ _ us hl => match us, hl with | [_, _, _], _ => rfl
  have F_P_do := fun_mk (st := s_P_do) l_P_do y_P_do k_P_do
  have B_P_do := F_P_do.binds (ps := ["self", "step"]) fun _ _ _ _ _ _ us hl => match us, hl with | [_, _], _ => rfl
  have F_P_counts := fun_mk (st := s_P_counts) l_P_counts y_P_counts k_P_counts
  have B_P_counts := F_P_counts.binds (ps := ["self"]) fun _ _ _ _ _ _ us hl => match us, hl with | [_], _ => rfl
  have F_P_opened := fun_mk (st := s_P_opened) l_P_opened y_P_opened k_P_opened
  have B_P_opened := F_P_opened.binds (ps := ["self"]) fun _ _ _ _ _ _ us hl => match us, hl with | [_], _ => rfl
  have F_P_there := fun_mk (st := s_P_there) l_P_there y_P_there k_P_there
  have B_P_there := F_P_there.binds (ps := ["self"]) fun _ _ _ _ _ _ us hl => match us, hl with | [_], _ => rfl
  have F_P_public := fun_mk (st := s_P_public) l_P_public y_P_public k_P_public
  have B_P_public := F_P_public.binds (ps := ["self"]) fun _ _ _ _ _ _ us hl => match us, hl with | [_], _ => rfl
  have F_P_deep := fun_mk (st := s_P_deep) l_P_deep y_P_deep k_P_deep
  have B_P_deep := F_P_deep.binds (ps := ["self"]) fun _ _ _ _ _ _ us hl => match us, hl with | [_], _ => rfl
  have F_P_looks := fun_mk (st := s_P_looks) l_P_looks y_P_looks k_P_looks
  have B_P_looks := F_P_looks.binds (ps := ["self", "name"]) fun _ _ _ _ _ _ us hl => match us, hl with | [_, _], _ => rfl
  have F_P_slot := fun_mk (st := s_P_slot) l_P_slot y_P_slot k_P_slot
  have B_P_slot := F_P_slot.binds (ps := ["self", "name", "i"]) fun _ _ _ _ _ _ us hl => match us, hl with | [_, _, _], _ => rfl
  have F_P_stand := fun_mk (st := s_P_stand) l_P_stand y_P_stand k_P_stand
  have B_P_stand := F_P_stand.binds (ps := ["self"]) fun _ _ _ _ _ _ us hl => match us, hl with | [_], _ => rfl
  have F_P_count := fun_mk (st := s_P_count) l_P_count y_P_count k_P_count
  have B_P_count := F_P_count.binds (ps := ["self", "k"]) fun _ _ _ _ _ _ us hl => match us, hl with | [_, _], _ => rfl
  have F_P_lib_there := fun_mk (st := s_P_lib_there) l_P_lib_there y_P_lib_there k_P_lib_there
  have B_P_lib_there := F_P_lib_there.binds (ps := ["self", "name"]) fun _ _ _ _ _ _ us hl => match us, hl with | [_, _], _ => rfl
  have F_slots_left := fun_mk (st := s_slots_left) l_slots_left y_slots_left k_slots_left
  have B_slots_left := F_slots_left.binds (ps := ["slots", "there"]) fun _ _ _ _ _ _ us hl => match us, hl with | [_, _], _ => rfl
  have F_answer_left := fun_mk (st := s_answer_left) l_answer_left y_answer_left k_answer_left
  have B_answer_left := F_answer_left.binds (ps := ["answer", "there"]) fun _ _ _ _ _ _ us hl => match us, hl with | [_, _], _ => rfl
  have F_cell_at := fun_mk (st := s_cell_at) l_cell_at y_cell_at k_cell_at
  have B_cell_at := F_cell_at.binds (ps := ["_law_script", "_law_gate"]) fun _ _ _ _ _ _ us hl => match us, hl with | [_, _], _ => rfl
  have F_box := fun_mk (st := s_box) l_box y_box k_box
  have B_box := F_box.binds (ps := ["_law_script", "_law_gate"]) fun _ _ _ _ _ _ us hl => match us, hl with | [_, _], _ => rfl
  have F_take := fun_mk (st := s_take) l_take y_take k_take
  have B_take := F_take.binds (ps := ["_law_box_here", "_law_many"]) fun _ _ _ _ _ _ us hl => match us, hl with | [_, _], _ => rfl
  have F_pick := fun_mk (st := s_pick) l_pick y_pick k_pick
  have B_pick := F_pick.binds (ps := ["_law_box_here", "_law_some_here"]) fun _ _ _ _ _ _ us hl => match us, hl with | [_, _], _ => rfl
  have F_same := fun_mk (st := s_same) l_same y_same k_same
  have B_same := F_same.binds (ps := ["_law_found", "_law_due"]) fun _ _ _ _ _ _ us hl => match us, hl with | [_, _], _ => rfl
  have F_names := fun_mk (st := s_names) l_names y_names k_names
  have B_names := F_names.binds (ps := ["_law_box_here", "_law_many"]) fun _ _ _ _ _ _ us hl => match us, hl with | [_, _], _ => rfl
  have F_some := fun_mk (st := s_some) l_some y_some k_some
  have B_some := F_some.binds (ps := ["_law_box_here", "_law_some_here", "_law_most"]) fun _ _ _ _ _ _ us hl => match us, hl with | [_, _, _], _ => rfl
  have F_pairs := fun_mk (st := s_pairs) l_pairs y_pairs k_pairs
  have B_pairs := F_pairs.binds (ps := ["_law_box_here", "_law_most"]) fun _ _ _ _ _ _ us hl => match us, hl with | [_, _], _ => rfl
  have F_lib := fun_mk (st := s_lib) l_lib y_lib k_lib
  have B_lib := F_lib.binds (ps := ["_law_box_here", "_law_own", "_law_others", "_law_is_main"]) fun _ _ _ _ _ _ us hl => match us, hl with | [_, _, _, _], _ => rfl
  have F_program := fun_mk (st := s_program) l_program y_program k_program
  have B_program := F_program.binds (ps := ["_law_box_here", "_law_most", "_law_gates"]) fun _ _ _ _ _ _ us hl => match us, hl with | [_, _, _], _ => rfl
  have F_step := fun_mk (st := s_step) l_step y_step k_step
  have B_step := F_step.binds (ps := ["_law_box_here", "_law_plot"]) fun _ _ _ _ _ _ us hl => match us, hl with | [_, _], _ => rfl
  have F_tried := fun_mk (st := s_tried) l_tried y_tried k_tried
  have B_tried := F_tried.binds (ps := ["_law_host", "_law_stride"]) fun _ _ _ _ _ _ us hl => match us, hl with | [_, _], _ => rfl
  have F_image := fun_mk (st := s_image) l_image y_image k_image
  have B_image := F_image.binds (ps := ["_law_host"]) fun _ _ _ _ _ _ us hl => match us, hl with | [_], _ => rfl
  have F_right := fun_mk (st := s_right) l_right y_right k_right
  have B_right := F_right.binds (ps := ["_law_box_here"]) fun _ _ _ _ _ _ us hl => match us, hl with | [_], _ => rfl
  have F_law := fun_mk (st := s_law) l_law y_law k_law
  have B_law := F_law.binds (ps := ["_law_script"]) fun _ _ _ _ _ _ us hl => match us, hl with | [_], _ => rfl
  let T : Top K mg := ⟨f_is_below, _, F_is_below, B_is_below, PySem.W.mg_of X G n_is_below_at, f_frozen, _, F_frozen, B_frozen, PySem.W.mg_of X G n_frozen_at, f_row, _, F_row, B_row, PySem.W.mg_of X G n_row_at, f_first_row, _, F_first_row, B_first_row, PySem.W.mg_of X G n_first_row_at, f_gives, _, F_gives, B_gives, PySem.W.mg_of X G n_gives_at, f_serving, _, F_serving, B_serving, PySem.W.mg_of X G n_serving_at, f_answer_along, _, F_answer_along, B_answer_along, PySem.W.mg_of X G n_answer_along_at, f_unbound_answer, _, F_unbound_answer, B_unbound_answer, PySem.W.mg_of X G n_unbound_answer_at, f_serves, _, F_serves, B_serves, PySem.W.mg_of X G n_serves_at, f_lib_named, _, F_lib_named, B_lib_named, PySem.W.mg_of X G n_lib_named_at, f_use_in, _, F_use_in, B_use_in, PySem.W.mg_of X G n_use_in_at, f_add_new, _, F_add_new, B_add_new, PySem.W.mg_of X G n_add_new_at, C_L, PySem.W.mg_of X G n_L_at, ⟨pg_L, hd_L, po_L, sa_L⟩, f_L_init, _, F_L_init, B_L_init, ⟨mk_L, in_L, if_L, kc_L⟩, f_among, _, F_among, B_among, PySem.W.mg_of X G n_among_at, f_first_base, _, F_first_base, B_first_base, PySem.W.mg_of X G n_first_base_at, f_opened_base, _, F_opened_base, B_opened_base, PySem.W.mg_of X G n_opened_base_at, f_closed_base, _, F_closed_base, B_closed_base, PySem.W.mg_of X G n_closed_base_at, f_opening, _, F_opening, B_opening, PySem.W.mg_of X G n_opening_at, f_closing, _, F_closing, B_closing, PySem.W.mg_of X G n_closing_at, f_changed_base, _, F_changed_base, B_changed_base, PySem.W.mg_of X G n_changed_base_at, f_with_count, _, F_with_count, B_with_count, PySem.W.mg_of X G n_with_count_at, f_names_there, _, F_names_there, B_names_there, PySem.W.mg_of X G n_names_there_at, f_looks_along, _, F_looks_along, B_looks_along, PySem.W.mg_of X G n_looks_along_at, C_P, PySem.W.mg_of X G n_P_at, ⟨pg_P, hd_P, po_P, sa_P⟩, f_P_init, _, F_P_init, B_P_init, ⟨mk_P, in_P, if_P, kc_P⟩, f_P_open_door, _, F_P_open_door, B_P_open_door, ⟨at_P_open_door, fn_P_open_door, k_P_open_door⟩, f_P_close_door, _, F_P_close_door, B_P_close_door, ⟨at_P_close_door, fn_P_close_door, k_P_close_door⟩, f_P_call, _, F_P_call, B_P_call, ⟨at_P_call, fn_P_call, k_P_call⟩, f_P_do, _, F_P_do, B_P_do, ⟨at_P_do, fn_P_do, k_P_do⟩, f_P_counts, _, F_P_counts, B_P_counts, ⟨at_P_counts, fn_P_counts, k_P_counts⟩, f_P_opened, _, F_P_opened, B_P_opened, ⟨at_P_opened, fn_P_opened, k_P_opened⟩, f_P_there, _, F_P_there, B_P_there, ⟨at_P_there, fn_P_there, k_P_there⟩, f_P_public, _, F_P_public, B_P_public, ⟨at_P_public, fn_P_public, k_P_public⟩, f_P_deep, _, F_P_deep, B_P_deep, ⟨at_P_deep, fn_P_deep, k_P_deep⟩, f_P_looks, _, F_P_looks, B_P_looks, ⟨at_P_looks, fn_P_looks, k_P_looks⟩, f_P_slot, _, F_P_slot, B_P_slot, ⟨at_P_slot, fn_P_slot, k_P_slot⟩, f_P_stand, _, F_P_stand, B_P_stand, ⟨at_P_stand, fn_P_stand, k_P_stand⟩, f_P_count, _, F_P_count, B_P_count, ⟨at_P_count, fn_P_count, k_P_count⟩, f_P_lib_there, _, F_P_lib_there, B_P_lib_there, ⟨at_P_lib_there, fn_P_lib_there, k_P_lib_there⟩, f_slots_left, _, F_slots_left, B_slots_left, PySem.W.mg_of X G n_slots_left_at, f_answer_left, _, F_answer_left, B_answer_left, PySem.W.mg_of X G n_answer_left_at, f_cell_at, _, F_cell_at, B_cell_at, PySem.W.mg_of X G n_cell_at_at, f_box, _, F_box, B_box, PySem.W.mg_of X G n_box_at, f_take, _, F_take, B_take, PySem.W.mg_of X G n_take_at, f_pick, _, F_pick, B_pick, PySem.W.mg_of X G n_pick_at, f_same, _, F_same, B_same, PySem.W.mg_of X G n_same_at, f_names, _, F_names, B_names, PySem.W.mg_of X G n_names_at, f_some, _, F_some, B_some, PySem.W.mg_of X G n_some_at, f_pairs, _, F_pairs, B_pairs, PySem.W.mg_of X G n_pairs_at, f_lib, _, F_lib, B_lib, PySem.W.mg_of X G n_lib_at, f_program, _, F_program, B_program, PySem.W.mg_of X G n_program_at, f_step, _, F_step, B_step, PySem.W.mg_of X G n_step_at, f_tried, _, F_tried, B_tried, PySem.W.mg_of X G n_tried_at, f_image, _, F_image, B_image, PySem.W.mg_of X G n_image_at, f_right, _, F_right, B_right, PySem.W.mg_of X G n_right_at, fa, _, F_law, B_law, PySem.W.mg_of X G n_law_at, na_L_first, na_L_rows, na_L_first_seen, na_L_rows_seen, na_L_into_public, na_L_into_deep, na_P_program, na_P_layout, na_P_base, na_P_slots, PySem.W.mg_none_of X G z_abs, PySem.W.mg_none_of X G z_all, PySem.W.mg_none_of X G z_bool, PySem.W.mg_none_of X G z_int, PySem.W.mg_none_of X G z_isinstance, PySem.W.mg_none_of X G z_len, PySem.W.mg_none_of X G z_list, PySem.W.mg_none_of X G z_min, PySem.W.mg_none_of X G z_range, PySem.W.mg_none_of X G z_repr, PySem.W.mg_none_of X G z_set, PySem.W.mg_none_of X G z_sorted, PySem.W.mg_none_of X G z_str, PySem.W.mg_none_of X G z_tuple, cS1, 138, ic1, fun h X => PySem.W.codeHd_of_K X ih1, tb1, on1, t_mo, PySem.W.mg_of X G z_mo, ⟨A_nb, o_nb, s_nb, u_nb, t_nb, PySem.W.mg_of X G ga_nb, gl_nb⟩, ⟨A_lo, o_lo, s_lo, u_lo, t_lo, PySem.W.mg_of X G ga_lo, gl_lo⟩, ⟨A_to, o_to, s_to, u_to, t_to, PySem.W.mg_of X G ga_to, gl_to⟩⟩
  exact ⟨PySem.W.fnOf "law" "law" (defArgs s_law) (defBody s_law) (defScope s_law) .none kV_law dc_law pm_law an_law cd_law ct_law, fun s v => .of_eq rfl, fun base KB _ hB => ok_law T (ok_right T ⟨PySem.W.codeHd_of_K KB ih1, (hB 138 ⟨_, tb1, rfl⟩).1, (hB 138 ⟨_, tb1, rfl⟩).2⟩)⟩
end K12
open PySem PySem.W PyProof.Rows
set_option maxRecDepth 100000 in
set_option maxHeartbeats 0 in
theorem PySem.Challenge.cw_latebound_k12_whole_doors_opened_twice_holds : PySem.Challenge.rw_latebound_k12_whole_doors_opened_twice.Holds := by
  w_on; o_law; k_head; (case hw => w_witness2)
  k_fill
  letI : Tr.Tabbed := ⟨[((138 : PySem.Addr), fun _ _ => ("serving" ++ ".<locals>." ++ "<lambda>" : PySem.Str))]⟩
  refine Tr.walk_GB (l := PySem.Challenge.rw_latebound_k12_whole_doors_opened_twice) (n := 63) (k := 14) (x := "_law_script") (T := K12.tLaw) rfl (by decide) rfl ⟨rfl, by decide, by decide⟩ (fun w h Y => PySem.W.km_in_of Y) ?T ?F ?S
  case S => exact fun ns hl hb => ⟨ns, rfl, by omega, hb, rfl⟩
  case T =>
    rintro w h Y b ⟨p, hp, rfl⟩
    rw [List.mem_singleton.mp hp]
    exact ⟨PySem.W.km_tabs_of Y 138 (by simp), by kernel_rfl, by obtain ⟨o, vs, _, _, _, _, _, _, _, e1, e2, e3, e4, _⟩ := PySem.W.codeHd_of_K (c := 140) (P := 138) (PySem.W.km_in_of Y) (by kernel_rfl); exact ⟨_, o, vs, e1, e2, e3, e4⟩⟩
  case F =>
    intro w mg fa h KX G hmg
    refine' K12.all_mk KX G hmg ?l_is_below ?y_is_below ?k_is_below ?n_is_below_at ?l_frozen ?y_frozen ?k_frozen ?n_frozen_at ?l_row ?y_row ?k_row ?n_row_at ?l_first_row ?y_first_row ?k_first_row ?n_first_row_at ?l_gives ?y_gives ?k_gives ?n_gives_at ?l_serving ?y_serving ?k_serving ?n_serving_at ?l_answer_along ?y_answer_along ?k_answer_along ?n_answer_along_at ?l_unbound_answer ?y_unbound_answer ?k_unbound_answer ?n_unbound_answer_at ?l_serves ?y_serves ?k_serves ?n_serves_at ?l_lib_named ?y_lib_named ?k_lib_named ?n_lib_named_at ?l_use_in ?y_use_in ?k_use_in ?n_use_in_at ?l_add_new ?y_add_new ?k_add_new ?n_add_new_at ?n_L_at ?pg_L ?hd_L ?po_L ?sa_L ?l_L_init ?y_L_init ?k_L_init ?v_L_init ?mk_L ?in_L ?if_L ?kc_L ?l_among ?y_among ?k_among ?n_among_at ?l_first_base ?y_first_base ?k_first_base ?n_first_base_at ?l_opened_base ?y_opened_base ?k_opened_base ?n_opened_base_at ?l_closed_base ?y_closed_base ?k_closed_base ?n_closed_base_at ?l_opening ?y_opening ?k_opening ?n_opening_at ?l_closing ?y_closing ?k_closing ?n_closing_at ?l_changed_base ?y_changed_base ?k_changed_base ?n_changed_base_at ?l_with_count ?y_with_count ?k_with_count ?n_with_count_at ?l_names_there ?y_names_there ?k_names_there ?n_names_there_at ?l_looks_along ?y_looks_along ?k_looks_along ?n_looks_along_at ?n_P_at ?pg_P ?hd_P ?po_P ?sa_P ?l_P_init ?y_P_init ?k_P_init ?mk_P ?in_P ?if_P ?kc_P ?l_P_open_door ?y_P_open_door ?k_P_open_door ?at_P_open_door ?fn_P_open_door ?l_P_close_door ?y_P_close_door ?k_P_close_door ?at_P_close_door ?fn_P_close_door ?l_P_call ?y_P_call ?k_P_call ?at_P_call ?fn_P_call ?l_P_do ?y_P_do ?k_P_do ?at_P_do ?fn_P_do ?l_P_counts ?y_P_counts ?k_P_counts ?at_P_counts ?fn_P_counts ?l_P_opened ?y_P_opened ?k_P_opened ?at_P_opened ?fn_P_opened ?l_P_there ?y_P_there ?k_P_there ?at_P_there ?fn_P_there ?l_P_public ?y_P_public ?k_P_public ?at_P_public ?fn_P_public ?l_P_deep ?y_P_deep ?k_P_deep ?at_P_deep ?fn_P_deep ?l_P_looks ?y_P_looks ?k_P_looks ?at_P_looks ?fn_P_looks ?l_P_slot ?y_P_slot ?k_P_slot ?at_P_slot ?fn_P_slot ?l_P_stand ?y_P_stand ?k_P_stand ?at_P_stand ?fn_P_stand ?l_P_count ?y_P_count ?k_P_count ?at_P_count ?fn_P_count ?l_P_lib_there ?y_P_lib_there ?k_P_lib_there ?at_P_lib_there ?fn_P_lib_there ?l_slots_left ?y_slots_left ?k_slots_left ?n_slots_left_at ?l_answer_left ?y_answer_left ?k_answer_left ?n_answer_left_at ?l_cell_at ?y_cell_at ?k_cell_at ?n_cell_at_at ?l_box ?y_box ?k_box ?n_box_at ?l_take ?y_take ?k_take ?n_take_at ?l_pick ?y_pick ?k_pick ?n_pick_at ?l_same ?y_same ?k_same ?n_same_at ?l_names ?y_names ?k_names ?n_names_at ?l_some ?y_some ?k_some ?n_some_at ?l_pairs ?y_pairs ?k_pairs ?n_pairs_at ?l_lib ?y_lib ?k_lib ?n_lib_at ?l_program ?y_program ?k_program ?n_program_at ?l_step ?y_step ?k_step ?n_step_at ?l_tried ?y_tried ?k_tried ?n_tried_at ?l_image ?y_image ?k_image ?n_image_at ?l_right ?y_right ?k_right ?n_right_at ?l_law ?y_law ?k_law ?n_law_at ?na_L_first ?na_L_rows ?na_L_first_seen ?na_L_rows_seen ?na_L_into_public ?na_L_into_deep ?na_P_program ?na_P_layout ?na_P_base ?na_P_slots ?z_abs ?z_all ?z_bool ?z_int ?z_isinstance ?z_len ?z_list ?z_min ?z_range ?z_repr ?z_set ?z_sorted ?z_str ?z_tuple ?ic1 ?ih1 ?tb1 ?on1 ?z_mo ?ga_nb ?gl_nb ?ga_lo ?gl_lo ?ga_to ?gl_to
    (case n_is_below_at => k_is)
    (case n_frozen_at => k_is)
    (case n_row_at => k_is)
    (case n_first_row_at => k_is)
    (case n_gives_at => k_is)
    (case n_serving_at => k_is)
    (case n_answer_along_at => k_is)
    (case n_unbound_answer_at => k_is)
    (case n_serves_at => k_is)
    (case n_lib_named_at => k_is)
    (case n_use_in_at => k_is)
    (case n_add_new_at => k_is)
    (case n_L_at => k_is)
    (case n_among_at => k_is)
    (case n_first_base_at => k_is)
    (case n_opened_base_at => k_is)
    (case n_closed_base_at => k_is)
    (case n_opening_at => k_is)
    (case n_closing_at => k_is)
    (case n_changed_base_at => k_is)
    (case n_with_count_at => k_is)
    (case n_names_there_at => k_is)
    (case n_looks_along_at => k_is)
    (case n_P_at => k_is)
    (case n_slots_left_at => k_is)
    (case n_answer_left_at => k_is)
    (case n_cell_at_at => k_is)
    (case n_box_at => k_is)
    (case n_take_at => k_is)
    (case n_pick_at => k_is)
    (case n_same_at => k_is)
    (case n_names_at => k_is)
    (case n_some_at => k_is)
    (case n_pairs_at => k_is)
    (case n_lib_at => k_is)
    (case n_program_at => k_is)
    (case n_step_at => k_is)
    (case n_tried_at => k_is)
    (case n_image_at => k_is)
    (case n_right_at => k_is)
    (case n_law_at => k_is)
    (case ga_nb => k_is)
    (case ga_lo => k_is)
    (case ga_to => k_is)
    (case in_L => k_is)
    (case in_P => k_is)
    (case at_P_open_door => k_is)
    (case at_P_close_door => k_is)
    (case at_P_call => k_is)
    (case at_P_do => k_is)
    (case at_P_counts => k_is)
    (case at_P_opened => k_is)
    (case at_P_there => k_is)
    (case at_P_public => k_is)
    (case at_P_deep => k_is)
    (case at_P_looks => k_is)
    (case at_P_slot => k_is)
    (case at_P_stand => k_is)
    (case at_P_count => k_is)
    (case at_P_lib_there => k_is)
    (case l_is_below => k_is)
    (case l_frozen => k_is)
    (case l_row => k_is)
    (case l_first_row => k_is)
    (case l_gives => k_is)
    (case l_serving => k_is)
    (case l_answer_along => k_is)
    (case l_unbound_answer => k_is)
    (case l_serves => k_is)
    (case l_lib_named => k_is)
    (case l_use_in => k_is)
    (case l_add_new => k_is)
    (case l_L_init => k_is)
    (case l_among => k_is)
    (case l_first_base => k_is)
    (case l_opened_base => k_is)
    (case l_closed_base => k_is)
    (case l_opening => k_is)
    (case l_closing => k_is)
    (case l_changed_base => k_is)
    (case l_with_count => k_is)
    (case l_names_there => k_is)
    (case l_looks_along => k_is)
    (case l_P_init => k_is)
    (case l_P_open_door => k_is)
    (case l_P_close_door => k_is)
    (case l_P_call => k_is)
    (case l_P_do => k_is)
    (case l_P_counts => k_is)
    (case l_P_opened => k_is)
    (case l_P_there => k_is)
    (case l_P_public => k_is)
    (case l_P_deep => k_is)
    (case l_P_looks => k_is)
    (case l_P_slot => k_is)
    (case l_P_stand => k_is)
    (case l_P_count => k_is)
    (case l_P_lib_there => k_is)
    (case l_slots_left => k_is)
    (case l_answer_left => k_is)
    (case l_cell_at => k_is)
    (case l_box => k_is)
    (case l_take => k_is)
    (case l_pick => k_is)
    (case l_same => k_is)
    (case l_names => k_is)
    (case l_some => k_is)
    (case l_pairs => k_is)
    (case l_lib => k_is)
    (case l_program => k_is)
    (case l_step => k_is)
    (case l_tried => k_is)
    (case l_image => k_is)
    (case l_right => k_is)
    (case l_law => k_is)
    (case y_is_below => k_is)
    (case k_is_below => k_is)
    (case y_frozen => k_is)
    (case k_frozen => k_is)
    (case y_row => k_is)
    (case k_row => k_is)
    (case y_first_row => k_is)
    (case k_first_row => k_is)
    (case y_gives => k_is)
    (case k_gives => k_is)
    (case y_serving => k_is)
    (case k_serving => k_is)
    (case y_answer_along => k_is)
    (case k_answer_along => k_is)
    (case y_unbound_answer => k_is)
    (case k_unbound_answer => k_is)
    (case y_serves => k_is)
    (case k_serves => k_is)
    (case y_lib_named => k_is)
    (case k_lib_named => k_is)
    (case y_use_in => k_is)
    (case k_use_in => k_is)
    (case y_add_new => k_is)
    (case k_add_new => k_is)
    (case pg_L => k_is)
    (case hd_L => k_is)
    (case po_L => k_is)
    (case sa_L => k_is)
    (case y_L_init => k_is)
    (case k_L_init => k_is)
    (case v_L_init => k_is)
    (case mk_L => k_is)
    (case if_L => k_is)
    (case kc_L => k_is)
    (case y_among => k_is)
    (case k_among => k_is)
    (case y_first_base => k_is)
    (case k_first_base => k_is)
    (case y_opened_base => k_is)
    (case k_opened_base => k_is)
    (case y_closed_base => k_is)
    (case k_closed_base => k_is)
    (case y_opening => k_is)
    (case k_opening => k_is)
    (case y_closing => k_is)
    (case k_closing => k_is)
    (case y_changed_base => k_is)
    (case k_changed_base => k_is)
    (case y_with_count => k_is)
    (case k_with_count => k_is)
    (case y_names_there => k_is)
    (case k_names_there => k_is)
    (case y_looks_along => k_is)
    (case k_looks_along => k_is)
    (case pg_P => k_is)
    (case hd_P => k_is)
    (case po_P => k_is)
    (case sa_P => k_is)
    (case y_P_init => k_is)
    (case k_P_init => k_is)
    (case mk_P => k_is)
    (case if_P => k_is)
    (case kc_P => k_is)
    (case y_P_open_door => k_is)
    (case k_P_open_door => k_is)
    (case fn_P_open_door => k_is)
    (case y_P_close_door => k_is)
    (case k_P_close_door => k_is)
    (case fn_P_close_door => k_is)
    (case y_P_call => k_is)
    (case k_P_call => k_is)
    (case fn_P_call => k_is)
    (case y_P_do => k_is)
    (case k_P_do => k_is)
    (case fn_P_do => k_is)
    (case y_P_counts => k_is)
    (case k_P_counts => k_is)
    (case fn_P_counts => k_is)
    (case y_P_opened => k_is)
    (case k_P_opened => k_is)
    (case fn_P_opened => k_is)
    (case y_P_there => k_is)
    (case k_P_there => k_is)
    (case fn_P_there => k_is)
    (case y_P_public => k_is)
    (case k_P_public => k_is)
    (case fn_P_public => k_is)
    (case y_P_deep => k_is)
    (case k_P_deep => k_is)
    (case fn_P_deep => k_is)
    (case y_P_looks => k_is)
    (case k_P_looks => k_is)
    (case fn_P_looks => k_is)
    (case y_P_slot => k_is)
    (case k_P_slot => k_is)
    (case fn_P_slot => k_is)
    (case y_P_stand => k_is)
    (case k_P_stand => k_is)
    (case fn_P_stand => k_is)
    (case y_P_count => k_is)
    (case k_P_count => k_is)
    (case fn_P_count => k_is)
    (case y_P_lib_there => k_is)
    (case k_P_lib_there => k_is)
    (case fn_P_lib_there => k_is)
    (case y_slots_left => k_is)
    (case k_slots_left => k_is)
    (case y_answer_left => k_is)
    (case k_answer_left => k_is)
    (case y_cell_at => k_is)
    (case k_cell_at => k_is)
    (case y_box => k_is)
    (case k_box => k_is)
    (case y_take => k_is)
    (case k_take => k_is)
    (case y_pick => k_is)
    (case k_pick => k_is)
    (case y_same => k_is)
    (case k_same => k_is)
    (case y_names => k_is)
    (case k_names => k_is)
    (case y_some => k_is)
    (case k_some => k_is)
    (case y_pairs => k_is)
    (case k_pairs => k_is)
    (case y_lib => k_is)
    (case k_lib => k_is)
    (case y_program => k_is)
    (case k_program => k_is)
    (case y_step => k_is)
    (case k_step => k_is)
    (case y_tried => k_is)
    (case k_tried => k_is)
    (case y_image => k_is)
    (case k_image => k_is)
    (case y_right => k_is)
    (case k_right => k_is)
    (case y_law => k_is)
    (case k_law => k_is)
    (case na_L_first => k_is)
    (case na_L_rows => k_is)
    (case na_L_first_seen => k_is)
    (case na_L_rows_seen => k_is)
    (case na_L_into_public => k_is)
    (case na_L_into_deep => k_is)
    (case na_P_program => k_is)
    (case na_P_layout => k_is)
    (case na_P_base => k_is)
    (case na_P_slots => k_is)
    (case z_abs => k_is)
    (case z_all => k_is)
    (case z_bool => k_is)
    (case z_int => k_is)
    (case z_isinstance => k_is)
    (case z_len => k_is)
    (case z_list => k_is)
    (case z_min => k_is)
    (case z_range => k_is)
    (case z_repr => k_is)
    (case z_set => k_is)
    (case z_sorted => k_is)
    (case z_str => k_is)
    (case z_tuple => k_is)
    (case ic1 => rfl)
    (case ih1 => kernel_rfl)
    (case tb1 => exact List.mem_singleton.mpr rfl)
    (case on1 => exact fun p hp _ => congrArg Prod.snd (List.mem_singleton.mp hp))
    (case z_mo => k_is)
    (case gl_nb => k_is)
    (case gl_lo => k_is)
    (case gl_to => k_is)
