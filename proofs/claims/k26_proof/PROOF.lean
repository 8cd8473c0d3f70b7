import PyProof.Rows.All
import Wide.All
import OpenK.AllK
import Wide.FinOn
import HandS.ForMost
import HandS.ForExc
import HandS.Wide
import HandS.ExcInit
import HandS.ExcField
import HandS.TryMany
import HandS.TupAny
import HandS.TupMul
import HandS.IsInst
import HandS.Style
import HandS.Small
import HandS.Deep
import HandS.Zip0
import HandS.DictComp
import HandS.Zip
import KE.GoesMore
import KE.GoesEnum
import HandS.WideMore
import HandS.OwnEq
import HandS.Base
import HandS.WideBits
import HandS.List
import PyProof.ListCopy
import HandS.ReplaceLit
import PyProof.StrOps2
import HandS.Strs
import HandS.SuiteRaise
import HandS.RaiseFrom
import HandS.ExcInitHot
import KE.KTryMore
import PySem.Challenge.RW_allbrought_k26_whole_changes_of_rows
set_option Elab.async false
set_option linter.all false
set_option maxRecDepth 100000
set_option maxHeartbeats 4000000
/-! Data without a heap over the hand layer: what values stand for, and how a def's slots and heap bear it. -/
namespace Dn
open PySem PySem.Spec PyProof.Rows L2

/-- a value as data -/
inductive D where
  | non | bl (b : Bool) | int (i : Int) | str (x : Str) | ty (n : String)
  | sc (ns : List Int)
  | lst (xs : List D) | tup (xs : List D)
  | dK (ks : List Key) (ds : List D) | dT (ks : List (List Key)) (ds : List D)
  | ob (C : Addr) (ns : List Str) (ds : List D)
  | xc (a d : Addr) (ns : List Str) (ds : List D)
/-- what a slot holds: settled data, or an object of its own that may be changed -/
inductive O where
  | val (d : D) | fl (d : D)
def view : O → D
  | .val d => d
  | .fl d => d
abbrev En := List (Option O)

/-- the script's list: it stands, whatever happens -/
def ScL (K : PySem.W.Frag) (H : Hp) (a : Addr) (ns : List Int) : Prop := (∃ o, H a = some (.frz o (.lst (ns.map V.int)))) ∨
  ∃ (o : Obj) (its : Array Value) (n : Nat), K.lookup a = some o ∧ o.cls = .type "list" ∧ o.dict = none ∧ o.data = .seq its n ∧ its.size ≤ sizeLine ∧ Vals (ns.map V.int) its.toList
theorem ScL.sql {K : PySem.W.Frag} {H : Hp} {a : Addr} {ns : List Int} (h : ScL K H a ns) : SqL K H a (ns.map V.int) := by
  rcases h with ⟨o, h⟩ | h
  · exact .inl (.inr ⟨o, h⟩)
  · exact .inr h
section
variable (K : PySem.W.Frag) (H : Hp) (Lv : Addr → Prop)
mutual
/-- the value v stands for d; nothing in it is alive -/
def Rep : D → V → Prop
  | .non, v => v = .non
  | .bl b, v => v = .bl b
  | .int i, v => v = .int i
  | .str x, v => v = .str x ∧ x.length ≤ sizeLine
  | .ty n, v => v = .ty n
  | .sc ns, v => ∃ a, v = .ref a ∧ ScL K H a ns ∧ ns.length ≤ sizeLine
  | .lst ds, v => ∃ a vs, v = .ref a ∧ ¬ Lv a ∧ H a = some (.lst vs) ∧ ds.length ≤ sizeLine ∧ RepL ds vs
  | .tup ds, v => ∃ a vs, v = .ref a ∧ H a = some (.tup vs) ∧ ds.length ≤ sizeLine ∧ RepL ds vs
  | .dK ks ds, v => ∃ a vs, v = .ref a ∧ ¬ Lv a ∧ Rd H a (.dK (ks.zip vs)) ∧ ks.length = ds.length ∧ ks.length ≤ sizeLine ∧ RepL ds vs
  | .dT ks ds, v => ∃ a vs, v = .ref a ∧ ¬ Lv a ∧ Rd H a (.dT (ks.zip vs)) ∧ ks.length = ds.length ∧ ks.length ≤ sizeLine ∧ RepL ds vs
  | .ob C ns ds, v => ∃ a dx vs, v = .ref a ∧ ¬ Lv a ∧ H a = some (.ins C dx (ns.zip vs)) ∧ ns.length = ds.length ∧ RepL ds vs
  | .xc a d ns ds, v => v = .ref a ∧ ∃ vs, H d = some (.xd (ns.zip vs)) ∧ ns.length = ds.length ∧ RepL ds vs
def RepL : List D → List V → Prop
  | [], vs => vs = []
  | d :: ds, vs => ∃ v ws, vs = v :: ws ∧ Rep d v ∧ RepL ds ws
end
/-- a content -/
def RepC : HO → D → Prop
  | .lst vs, .lst ds => ds.length ≤ sizeLine ∧ RepL K H Lv ds vs
  | .dK kvs, .dK ks ds => ∃ vs, kvs = ks.zip vs ∧ ks.length = ds.length ∧ ks.length ≤ sizeLine ∧ RepL K H Lv ds vs
  | .dT kvs, .dT ks ds => ∃ vs, kvs = ks.zip vs ∧ ks.length = ds.length ∧ ks.length ≤ sizeLine ∧ RepL K H Lv ds vs
  | .ins C _ fs, .ob C' ns ds => C = C' ∧ ∃ vs, fs = ns.zip vs ∧ ns.length = ds.length ∧ RepL K H Lv ds vs
  | _, _ => False
/-- the root may be alive -/
def RepR : D → V → Prop
  | .lst ds, v => ∃ a vs, v = .ref a ∧ H a = some (.lst vs) ∧ ds.length ≤ sizeLine ∧ RepL K H Lv ds vs
  | .dK ks ds, v => ∃ a vs, v = .ref a ∧ Rd H a (.dK (ks.zip vs)) ∧ ks.length = ds.length ∧ ks.length ≤ sizeLine ∧ RepL K H Lv ds vs
  | .dT ks ds, v => ∃ a vs, v = .ref a ∧ Rd H a (.dT (ks.zip vs)) ∧ ks.length = ds.length ∧ ks.length ≤ sizeLine ∧ RepL K H Lv ds vs
  | .ob C ns ds, v => ∃ a dx vs, v = .ref a ∧ H a = some (.ins C dx (ns.zip vs)) ∧ ns.length = ds.length ∧ RepL K H Lv ds vs
  | d, v => Rep K H Lv d v
end

/-- what lasts from the one heap to the other -/
structure Keep (H : Hp) (Lv : Addr → Prop) (H' : Hp) (Lv' : Addr → Prop) : Prop where
  k : ∀ a o, H a = some o → ¬ Lv a → H' a = some o
  t : ∀ a o, H a = some o → ¬ Mut (some o) → H' a = some o
  l : ∀ a o, H a = some o → ¬ Lv a → ¬ Lv' a
def Grow (H H' : Hp) : Prop := ∀ a o, H a = some o → H' a = some o
theorem Grow.refl {H : Hp} : Grow H H := fun _ _ e => e
theorem Grow.trans {H H1 H2 : Hp} (a : Grow H H1) (b : Grow H1 H2) : Grow H H2 := fun x o e => b x o (a x o e)
theorem Grow.upd {H : Hp} {p : Addr} {u : HO} (h : H p = none) : Grow H (upd H p u) := fun a o e => by
  rw [upd_ne (ne_of_none e h)]; exact e
theorem Grow.keep {H H' : Hp} {Lv : Addr → Prop} (g : Grow H H') : Keep H Lv H' Lv := ⟨fun a o e _ => g a o e, fun a o e _ => g a o e, fun _ _ _ h => h⟩

section
variable {K : PySem.W.Frag} {H H' : Hp} {Lv Lv' : Addr → Prop}
theorem Keep.rd (k : Keep H Lv H' Lv') {a : Addr} {u : HO} (h : ¬ Lv a) (r : Rd H a u) : Rd H' a u := by
  rcases r with r | ⟨o, r⟩
  · exact .inl (k.k _ _ r h)
  · exact .inr ⟨o, k.k _ _ r h⟩
theorem Keep.nl (k : Keep H Lv H' Lv') {a : Addr} {u : HO} (h : ¬ Lv a) (r : Rd H a u) : ¬ Lv' a := by
  rcases r with r | ⟨o, r⟩
  · exact k.l _ _ r h
  · exact k.l _ _ r h
theorem Keep.sqt (k : Keep H Lv H' Lv') {a : Addr} {vs : List V} (r : SqT K H a vs) : SqT K H' a vs := by
  rcases r with (r | ⟨o, r⟩) | r
  · exact .inl (.inl (k.t _ _ r fun z => z))
  · exact .inl (.inr ⟨o, k.t _ _ r fun z => z⟩)
  · exact .inr r
mutual
theorem Rep.mono (k : Keep H Lv H' Lv') : ∀ (d : D) (v : V), Rep K H Lv d v → Rep K H' Lv' d v
  | .non, _, h => h
  | .bl _, _, h => h
  | .int _, _, h => h
  | .str _, _, h => h
  | .ty _, _, h => h
  | .sc ns, _, ⟨a, e, r, z⟩ => ⟨a, e, r.elim (fun ⟨o, q⟩ => .inl ⟨o, k.t _ _ q fun z => z⟩) .inr, z⟩
  | .lst ds, _, ⟨a, vs, e, nl, r, z, hs⟩ => ⟨a, vs, e, k.l _ _ r nl, k.k _ _ r nl, z, RepL.mono k ds vs hs⟩
  | .tup ds, _, ⟨a, vs, e, r, z, hs⟩ => ⟨a, vs, e, k.t _ _ r (fun z => z), z, RepL.mono k ds vs hs⟩
  | .dK ks ds, _, ⟨a, vs, e, nl, r, l, z, hs⟩ => ⟨a, vs, e, k.nl nl r, k.rd nl r, l, z, RepL.mono k ds vs hs⟩
  | .dT ks ds, _, ⟨a, vs, e, nl, r, l, z, hs⟩ => ⟨a, vs, e, k.nl nl r, k.rd nl r, l, z, RepL.mono k ds vs hs⟩
  | .ob C ns ds, _, ⟨a, dx, vs, e, nl, r, l, hs⟩ => ⟨a, dx, vs, e, k.l _ _ r nl, k.k _ _ r nl, l, RepL.mono k ds vs hs⟩
  | .xc a d ns ds, _, ⟨e, vs, r, l, hs⟩ => ⟨e, vs, k.t _ _ r (fun z => z), l, RepL.mono k ds vs hs⟩
theorem RepL.mono (k : Keep H Lv H' Lv') : ∀ (ds : List D) (vs : List V), RepL K H Lv ds vs → RepL K H' Lv' ds vs
  | [], _, h => h
  | d :: ds, _, ⟨v, ws, e, h, hs⟩ => ⟨v, ws, e, Rep.mono k d v h, RepL.mono k ds ws hs⟩
end
theorem RepL.length : ∀ {ds : List D} {vs : List V}, RepL K H Lv ds vs → vs.length = ds.length
  | [], _, h => by cases h; rfl
  | _ :: ds, _, ⟨_, ws, e, _, hs⟩ => by subst e; simp [hs.length]
theorem RepL.get : ∀ {ds : List D} {vs : List V} {i : Nat} {d : D}, RepL K H Lv ds vs → ds[i]? = some d → ∃ v, vs[i]? = some v ∧ Rep K H Lv d v
  | [], _, _, _, _, h => by simp at h
  | _ :: ds, _, 0, _, ⟨v, ws, e, h, hs⟩, q => by subst e; cases q; exact ⟨v, rfl, h⟩
  | _ :: ds, _, i + 1, _, ⟨v, ws, e, h, hs⟩, q => by subst e; exact RepL.get (i := i) hs q
theorem RepL.get' : ∀ {ds : List D} {vs : List V} {i : Nat} {v : V}, RepL K H Lv ds vs → vs[i]? = some v → ∃ d, ds[i]? = some d ∧ Rep K H Lv d v
  | [], _, _, _, h, q => by cases h; simp at q
  | d :: ds, _, 0, _, ⟨v, ws, e, h, hs⟩, q => by subst e; cases q; exact ⟨d, rfl, h⟩
  | _ :: ds, _, i + 1, _, ⟨v, ws, e, h, hs⟩, q => by subst e; exact RepL.get' (i := i) hs q
theorem RepL.of : ∀ {ds : List D} {vs : List V}, vs.length = ds.length → (∀ (i : Nat) (d : D) (v : V), ds[i]? = some d → vs[i]? = some v → Rep K H Lv d v) → RepL K H Lv ds vs
  | [], [], _, _ => rfl
  | [], _ :: _, l, _ => by simp at l
  | _ :: _, [], l, _ => by simp at l
  | d :: ds, v :: vs, l, h => ⟨v, vs, rfl, h 0 d v rfl rfl, RepL.of (by simpa using l) fun i d v a b => h (i + 1) d v a b⟩
theorem RepL.append : ∀ {ds es : List D} {vs ws : List V}, RepL K H Lv ds vs → RepL K H Lv es ws → RepL K H Lv (ds ++ es) (vs ++ ws)
  | [], _, _, _, h, q => by cases h; exact q
  | _ :: ds, _, _, _, ⟨v, us, e, h, hs⟩, q => by subst e; exact ⟨v, _, rfl, h, RepL.append hs q⟩
theorem RepL.take : ∀ {ds : List D} {vs : List V} (n : Nat), RepL K H Lv ds vs → RepL K H Lv (ds.take n) (vs.take n)
  | [], _, n, h => by cases h; simp [RepL]
  | _ :: ds, _, 0, _ => by simp [RepL]
  | _ :: ds, _, n + 1, ⟨v, us, e, h, hs⟩ => by subst e; exact ⟨v, _, rfl, h, RepL.take n hs⟩
theorem RepL.drop : ∀ {ds : List D} {vs : List V} (n : Nat), RepL K H Lv ds vs → RepL K H Lv (ds.drop n) (vs.drop n)
  | [], _, n, h => by cases h; simp [RepL]
  | _ :: ds, _, 0, h => h
  | _ :: ds, _, n + 1, ⟨v, us, e, h, hs⟩ => by subst e; exact RepL.drop n hs
theorem RepL.set : ∀ {ds : List D} {vs : List V} {d : D} {v : V} (n : Nat), RepL K H Lv ds vs → Rep K H Lv d v → RepL K H Lv (ds.set n d) (vs.set n v)
  | [], _, _, _, n, h, _ => by cases h; simp [RepL]
  | _ :: ds, _, _, _, 0, ⟨v, us, e, h, hs⟩, q => by subst e; exact ⟨_, _, rfl, q, hs⟩
  | _ :: ds, _, _, _, n + 1, ⟨v, us, e, h, hs⟩, q => by subst e; exact ⟨_, _, rfl, h, RepL.set n hs q⟩
theorem RepL.ints : ∀ (ns : List Int), RepL K H Lv (ns.map D.int) (ns.map V.int)
  | [] => rfl
  | n :: r => ⟨.int n, _, rfl, rfl, RepL.ints r⟩
theorem Rep.r {d : D} {v : V} (h : Rep K H Lv d v) : RepR K H Lv d v := by
  cases d with
  | lst ds => obtain ⟨a, vs, e, _, r, hs⟩ := h; exact ⟨a, vs, e, r, hs⟩
  | dK ks ds => obtain ⟨a, vs, e, _, r, hs⟩ := h; exact ⟨a, vs, e, r, hs⟩
  | dT ks ds => obtain ⟨a, vs, e, _, r, hs⟩ := h; exact ⟨a, vs, e, r, hs⟩
  | ob C ns ds => obtain ⟨a, dx, vs, e, _, r, hs⟩ := h; exact ⟨a, dx, vs, e, r, hs⟩
  | _ => exact h
theorem RepR.mono (k : Keep H Lv H' Lv') {d : D} {v : V} (root : ∀ a o, v = .ref a → H a = some o → H' a = some o) (h : RepR K H Lv d v) : RepR K H' Lv' d v := by
  have rd : ∀ {a u}, v = .ref a → Rd H a u → Rd H' a u := fun e r => by
    rcases r with r | ⟨o, r⟩
    · exact .inl (root _ _ e r)
    · exact .inr ⟨o, root _ _ e r⟩
  cases d with
  | lst ds => obtain ⟨a, vs, e, r, z, hs⟩ := h; exact ⟨a, vs, e, root _ _ e r, z, hs.mono k⟩
  | dK ks ds => obtain ⟨a, vs, e, r, l, z, hs⟩ := h; exact ⟨a, vs, e, rd e r, l, z, hs.mono k⟩
  | dT ks ds => obtain ⟨a, vs, e, r, l, z, hs⟩ := h; exact ⟨a, vs, e, rd e r, l, z, hs.mono k⟩
  | ob C ns ds => obtain ⟨a, dx, vs, e, r, l, hs⟩ := h; exact ⟨a, dx, vs, e, root _ _ e r, l, hs.mono k⟩
  | _ => exact Rep.mono k _ _ h
/-- a live root and its content -/
theorem RepR.of_c {a : Addr} {u : HO} {d : D} (e : H a = some u) (h : RepC K H Lv u d) : RepR K H Lv d (.ref a) := by
  cases u <;> cases d <;> first | exact h.elim | skip
  · exact ⟨a, _, rfl, e, h.1, h.2⟩
  · obtain ⟨vs, rfl, l, z, hs⟩ := h; exact ⟨a, vs, rfl, .inl e, l, z, hs⟩
  · obtain ⟨vs, rfl, l, z, hs⟩ := h; exact ⟨a, vs, rfl, .inl e, l, z, hs⟩
  · obtain ⟨rfl, vs, rfl, l, hs⟩ := h; exact ⟨a, _, vs, rfl, e, l, hs⟩
theorem RepC.mono (k : Keep H Lv H' Lv') {u : HO} {d : D} (h : RepC K H Lv u d) : RepC K H' Lv' u d := by
  cases u <;> cases d <;> first | exact h.elim | skip
  · exact ⟨h.1, RepL.mono k _ _ h.2⟩
  · obtain ⟨vs, e, l, z, hs⟩ := h; exact ⟨vs, e, l, z, hs.mono k⟩
  · obtain ⟨vs, e, l, z, hs⟩ := h; exact ⟨vs, e, l, z, hs.mono k⟩
  · obtain ⟨c, vs, e, l, hs⟩ := h; exact ⟨c, vs, e, l, hs.mono k⟩
theorem RepC.mut {u : HO} {d : D} (h : RepC K H Lv u d) : Mut (some u) := by
  cases u <;> cases d <;> first | exact h.elim | trivial
/-- frozen again -/
theorem RepR.froze {a : Addr} {d : D} (h : RepR K H Lv d (.ref a)) (nl : ¬ Lv a) : Rep K H Lv d (.ref a) := by
  cases d with
  | lst ds => obtain ⟨b, vs, e, r, hs⟩ := h; cases e; exact ⟨_, vs, rfl, nl, r, hs⟩
  | dK ks ds => obtain ⟨b, vs, e, r, hs⟩ := h; cases e; exact ⟨_, vs, rfl, nl, r, hs⟩
  | dT ks ds => obtain ⟨b, vs, e, r, hs⟩ := h; cases e; exact ⟨_, vs, rfl, nl, r, hs⟩
  | ob C ns ds => obtain ⟨b, dx, vs, e, r, hs⟩ := h; cases e; exact ⟨_, dx, vs, rfl, nl, r, hs⟩
  | _ => exact h

/-- a slot's or cell's own: the addresses that are alive by it -/
def RepO (K : PySem.W.Frag) (H : Hp) (Lv : Addr → Prop) : O → V → List Addr → Prop
  | .val d, v, fp => fp = [] ∧ Rep K H Lv d v
  | .fl d, v, fp => ∃ a u, v = .ref a ∧ fp = [a] ∧ H a = some u ∧ RepC K H Lv u d
theorem RepO.r {o : O} {v : V} {fp : List Addr} (h : RepO K H Lv o v fp) : RepR K H Lv (view o) v := by
  cases o with
  | val d => exact h.2.r
  | fl d => obtain ⟨a, u, rfl, _, e, c⟩ := h; exact RepR.of_c e c
theorem RepO.mono (k : Keep H Lv H' Lv') {o : O} {v : V} {fp : List Addr} (root : ∀ a ∈ fp, H' a = H a) (h : RepO K H Lv o v fp) : RepO K H' Lv' o v fp := by
  cases o with
  | val d => exact ⟨h.1, Rep.mono k _ _ h.2⟩
  | fl d => obtain ⟨a, u, rfl, rfl, e, c⟩ := h; exact ⟨a, u, rfl, rfl, (root a (by simp)).trans e, c.mono k⟩
end

/-! ### the frame of a def: what was there at its entry -/
structure Fm where
  H0 : Hp
  O0 : Addr → Prop
  Av : Addr → Prop
  pn : List (Nat × V)
def lv (Av : Addr → Prop) (fp : Nat → List Addr) : Addr → Prop := fun a => Av a ∨ ∃ i, a ∈ fp i
structure Fit (K : PySem.W.Frag) (F : Fm) (vs : List (Option V)) (H : Hp) (os : En) (fp : Nat → List Addr) : Prop where
  rep : ∀ (i : Nat) (o : O), os[i]? = some (some o) → ∃ v, vs[i]? = some (some v) ∧ RepO K H (lv F.Av fp) o v (fp i)
  dj : ∀ i j a, a ∈ fp i → a ∈ fp j → i = j
  mu : ∀ i a, a ∈ fp i → Mut (H a) ∧ ¬ F.Av a ∧ (F.O0 a ∨ F.H0 a = none)
structure ER (K : PySem.W.Frag) (F : Fm) (vs : List (Option V)) (H : Hp) (os : En) (tmp : List (D × V)) : Prop where
  len : vs.length = os.length
  fit : ∃ fp, Fit K F vs H os fp ∧ ∀ q ∈ tmp, Rep K H (lv F.Av fp) q.1 q.2
  st : ∀ a o, F.H0 a = some o → ¬ F.O0 a → H a = some o
  av : ∀ a, F.Av a → Mut (F.H0 a) ∧ ¬ F.O0 a
  om : ∀ a, F.O0 a → Mut (F.H0 a)
  pin : ∀ q ∈ F.pn, vs[q.1]? = some (some q.2)
/-- what is true of a state at hand -/
structure Opn (K : PySem.W.Frag) (H : Hp) (Lv : Addr → Prop) (vs : List (Option V)) (os : En) (tmp : List (D × V)) : Prop where
  mu : ∀ a, Lv a → Mut (H a)
  tm : ∀ q ∈ tmp, Rep K H Lv q.1 q.2
  sl : ∀ (i : Nat) (o : O), os[i]? = some (some o) → ∃ v, vs[i]? = some (some v) ∧ RepR K H Lv (view o) v
  sv : ∀ (i : Nat) (d : D), os[i]? = some (some (.val d)) → ∃ v, vs[i]? = some (some v) ∧ Rep K H Lv d v
  so : ∀ (i : Nat) (d : D), os[i]? = some (some (.fl d)) → ∃ a u, vs[i]? = some (some (.ref a)) ∧ H a = some u ∧ RepC K H Lv u d
section
variable {K : PySem.W.Frag} {F : Fm} {vs : List (Option V)} {H H' : Hp} {os : En} {tmp tmp' : List (D × V)}
theorem mut_some {H : Hp} {a : Addr} (m : Mut (H a)) : ∃ u, H a = some u ∧ Mut (some u) := by
  cases e : H a with
  | none => rw [e] at m; exact m.elim
  | some u => rw [e] at m; exact ⟨u, rfl, m⟩
theorem ER.avm (I : ER K F vs H os tmp) {a : Addr} (h : F.Av a) : Mut (H a) := by
  obtain ⟨u, e, m⟩ := mut_some (I.av a h).1
  rw [I.st a u e (I.av a h).2]; exact m
theorem lv_mu (I : ER K F vs H os tmp) {fp : Nat → List Addr} (f : Fit K F vs H os fp) : ∀ a, lv F.Av fp a → Mut (H a) := fun a h => by
  rcases h with h | ⟨i, h⟩
  · exact I.avm h
  · exact (f.mu i a h).1
theorem Fit.opn (I : ER K F vs H os tmp) {fp : Nat → List Addr} (f : Fit K F vs H os fp) (t : ∀ q ∈ tmp, Rep K H (lv F.Av fp) q.1 q.2) : Opn K H (lv F.Av fp) vs os tmp :=
  ⟨lv_mu I f, t, fun i o e => let ⟨v, a, b⟩ := f.rep i o e; ⟨v, a, b.r⟩, fun i d e => let ⟨v, a, b⟩ := f.rep i _ e; ⟨v, a, b.2⟩, fun i d e => by
    obtain ⟨v, h, a, u, rfl, _, e, c⟩ := f.rep i _ e
    exact ⟨a, u, h, e, c⟩⟩
theorem Fit.grow (g : Grow H H') {fp : Nat → List Addr} (f : Fit K F vs H os fp) : Fit K F vs H' os fp :=
  ⟨fun i o e => by
    obtain ⟨v, h, r⟩ := f.rep i o e
    exact ⟨v, h, r.mono g.keep fun a ha => by
      obtain ⟨u, q, _⟩ := mut_some (f.mu i a ha).1
      rw [q, g a u q]⟩, f.dj, fun i a h => ⟨by
      obtain ⟨u, q, m⟩ := mut_some (f.mu i a h).1
      rw [g a u q]; exact m, (f.mu i a h).2⟩⟩
/-- the heap grows: what is told then -/
theorem ER.opn (I : ER K F vs H os tmp) : ∃ Lv, Opn K H Lv vs os tmp ∧ ∀ H' tmp', Grow H H' → (∀ q ∈ tmp', q ∈ tmp ∨ Rep K H' Lv q.1 q.2) → ER K F vs H' os tmp' := by
  obtain ⟨fp, f, t⟩ := I.fit
  refine ⟨_, f.opn I t, fun H' tmp' g ht => ⟨I.len, ⟨fp, f.grow g, fun q hq => ?_⟩, fun a o e n => g a o (I.st a o e n), I.av, I.om, I.pin⟩⟩
  rcases ht q hq with h | h
  · exact Rep.mono g.keep _ _ (t q h)
  · exact h
theorem ER.sub (I : ER K F vs H os tmp) (h : ∀ q ∈ tmp', q ∈ tmp) : ER K F vs H os tmp' := by
  obtain ⟨Lv, _, k⟩ := I.opn
  exact k H tmp' Grow.refl fun q hq => .inl (h q hq)
theorem ER.pop {q : D × V} (I : ER K F vs H os (q :: tmp)) : ER K F vs H os tmp := I.sub fun _ h => List.mem_cons_of_mem _ h
theorem upd_grow {H : Hp} {p : Addr} {u : HO} (hp : H p = none) : Grow H (upd H p u) := Grow.upd hp
/-- a new object, alive, in a new cell -/
theorem ER.newOf (I : ER K F vs H os tmp) {fp : Nat → List Addr} (f : Fit K F vs H os fp) (t : ∀ q ∈ tmp, Rep K H (lv F.Av fp) q.1 q.2) {p : Addr} {u : HO} {d : D} (hp : H p = none) (c : RepC K H (lv F.Av fp) u d) :
    ER K F (vs ++ [some (.ref p)]) (upd H p u) (os ++ [some (.fl d)]) tmp := by
  have g : Grow H (upd H p u) := Grow.upd hp
  have n := I.len
  have np : ∀ i, p ∉ fp i := fun i h => by
    have := (f.mu i p h).1
    rw [hp] at this; exact this
  -- the new footprint
  let fp' : Nat → List Addr := fun i => if i = os.length then [p] else if i < os.length then fp i else []
  have e1 : fp' os.length = [p] := if_pos rfl
  have e2 : ∀ i, i < os.length → fp' i = fp i := fun i h => by
    show (if i = os.length then [p] else if i < os.length then fp i else []) = fp i
    rw [if_neg (Nat.ne_of_lt h), if_pos h]
  have sub : ∀ i a, a ∈ fp' i → (i = os.length ∧ a = p) ∨ (i < os.length ∧ a ∈ fp i) := fun i a h => by
    have h : a ∈ (if i = os.length then [p] else if i < os.length then fp i else []) := h
    by_cases q : i = os.length
    · rw [if_pos q] at h; exact .inl ⟨q, by simpa using h⟩
    · rw [if_neg q] at h
      by_cases q2 : i < os.length
      · rw [if_pos q2] at h; exact .inr ⟨q2, h⟩
      · rw [if_neg q2] at h; simp at h
  have kp : Keep H (lv F.Av fp) (upd H p u) (lv F.Av fp') := ⟨fun a o e _ => g a o e, fun a o e _ => g a o e, fun a o e nl z => by
    rcases z with z | ⟨i, z⟩
    · exact nl (.inl z)
    · rcases sub i a z with ⟨_, rfl⟩ | ⟨_, z⟩
      · rw [hp] at e; cases e
      · exact nl (.inr ⟨i, z⟩)⟩
  refine ⟨by simp [n], ⟨fp', ⟨fun i o e => ?_, fun i j a h1 h2 => ?_, fun i a h => ?_⟩, fun q hq => Rep.mono kp _ _ (t q hq)⟩, fun a o e z => g a o (I.st a o e z), I.av, I.om, fun q hq => ?_⟩
  · by_cases q : i < os.length
    · rw [List.getElem?_append_left q] at e
      obtain ⟨v, h, r⟩ := f.rep i o e
      refine ⟨v, by rw [List.getElem?_append_left (by rw [n]; exact q)]; exact h, ?_⟩
      rw [e2 i q]
      refine r.mono kp fun a ha => ?_
      exact upd_ne fun z => np i (by rw [← z]; exact ha)
    · have z : i = os.length := by
        have := (List.getElem?_eq_some_iff.mp e).1
        simp at this; omega
      subst z
      simp at e
      subst e
      refine ⟨.ref p, by rw [← n]; simp, ?_⟩
      rw [e1]
      exact ⟨p, u, rfl, rfl, upd_same, c.mono kp⟩
  · rcases sub i a h1 with ⟨z1, z2⟩ | ⟨z1, z2⟩ <;> rcases sub j a h2 with ⟨y1, y2⟩ | ⟨y1, y2⟩
    · omega
    · subst z2; exact absurd y2 (np j)
    · subst y2; exact absurd z2 (np i)
    · exact f.dj i j a z2 y2
  · rcases sub i a h with ⟨_, rfl⟩ | ⟨_, z⟩
    · refine ⟨by rw [upd_same]; exact c.mut, fun z => ?_, ?_⟩
      · have := I.avm z
        rw [hp] at this; exact this
      · by_cases q : F.O0 a
        · exact .inl q
        · refine .inr ?_
          cases e : F.H0 a with
          | none => rfl
          | some o => rw [I.st a o e q] at hp; cases hp
    · have m := f.mu i a z
      refine ⟨?_, m.2⟩
      rw [upd_ne fun y => np i (by rw [← y]; exact z)]; exact m.1
  · have := I.pin q hq
    rw [List.getElem?_append_left (List.getElem?_eq_some_iff.mp this).1]; exact this

theorem ER.newO (I : ER K F vs H os tmp) {p : Addr} {u : HO} {d : D} (hp : H p = none) (hd : ∀ Lv, Opn K H Lv vs os tmp → RepC K H Lv u d) : ER K F (vs ++ [some (.ref p)]) (upd H p u) (os ++ [some (.fl d)]) tmp := by
  obtain ⟨fp, f, t⟩ := I.fit
  exact I.newOf f t hp (hd _ (f.opn I t))
/-- footprints go: what is told stays -/
theorem Keep.shrink {H : Hp} {Lv Lv' : Addr → Prop} (h : ∀ a, Lv' a → Lv a) : Keep H Lv H Lv' := ⟨fun _ _ e _ => e, fun _ _ e _ => e, fun a _ _ n z => n (h a z)⟩
theorem lv_sub {Av : Addr → Prop} {fp fp' : Nat → List Addr} (h : ∀ i a, a ∈ fp' i → ∃ j, a ∈ fp j) : ∀ a, lv Av fp' a → lv Av fp a := fun a z => by
  rcases z with z | ⟨i, z⟩
  · exact .inl z
  · exact .inr (h i a z)
/-- a cell is stored anew: settled data -/
theorem ER.set {d : D} {v : V} {i : Nat} (I : ER K F vs H os ((d, v) :: tmp)) (hp : ∀ q ∈ F.pn, q.1 ≠ i) : ER K F (vs.set i (some v)) H (os.set i (some (.val d))) tmp := by
  obtain ⟨fp, f, t⟩ := I.fit
  let fp' : Nat → List Addr := fun j => if j = i then [] else fp j
  have sub : ∀ j a, a ∈ fp' j → j ≠ i ∧ a ∈ fp j := fun j a h => by
    have h : a ∈ (if j = i then [] else fp j) := h
    by_cases q : j = i
    · rw [if_pos q] at h; cases h
    · rw [if_neg q] at h; exact ⟨q, h⟩
  have kp : Keep H (lv F.Av fp) H (lv F.Av fp') := Keep.shrink (lv_sub fun j a h => ⟨j, (sub j a h).2⟩)
  refine ⟨by simp [I.len], ⟨fp', ⟨fun j o e => ?_, fun j k a h1 h2 => f.dj j k a (sub j a h1).2 (sub k a h2).2, fun j a h => f.mu j a (sub j a h).2⟩, fun q hq => Rep.mono kp _ _ (t q (List.mem_cons_of_mem _ hq))⟩, I.st, I.av, I.om, fun q hq => ?_⟩
  · by_cases q : j = i
    · subst q
      have hj : j < os.length := by have := (List.getElem?_eq_some_iff.mp e).1; simpa using this
      rw [List.getElem?_set_self hj] at e
      cases e
      refine ⟨v, by rw [List.getElem?_set_self (by rw [I.len]; exact hj)], if_pos rfl, Rep.mono kp _ _ (t (d, v) List.mem_cons_self)⟩
    · rw [List.getElem?_set_ne (Ne.symm q)] at e
      obtain ⟨v', h, r⟩ := f.rep j o e
      refine ⟨v', by rw [List.getElem?_set_ne (Ne.symm q)]; exact h, ?_⟩
      rw [show fp' j = fp j from if_neg q]
      exact r.mono kp fun _ _ => rfl
  · have := I.pin q hq
    rw [List.getElem?_set_ne (Ne.symm (hp q hq))]; exact this
/-- a cell is forgotten -/
theorem ER.unset {i : Nat} (I : ER K F vs H os tmp) (hp : ∀ q ∈ F.pn, q.1 ≠ i) : ER K F (vs.set i none) H (os.set i none) tmp := by
  obtain ⟨fp, f, t⟩ := I.fit
  let fp' : Nat → List Addr := fun j => if j = i then [] else fp j
  have sub : ∀ j a, a ∈ fp' j → j ≠ i ∧ a ∈ fp j := fun j a h => by
    have h : a ∈ (if j = i then [] else fp j) := h
    by_cases q : j = i
    · rw [if_pos q] at h; cases h
    · rw [if_neg q] at h; exact ⟨q, h⟩
  have kp : Keep H (lv F.Av fp) H (lv F.Av fp') := Keep.shrink (lv_sub fun j a h => ⟨j, (sub j a h).2⟩)
  refine ⟨by simp [I.len], ⟨fp', ⟨fun j o e => ?_, fun j k a h1 h2 => f.dj j k a (sub j a h1).2 (sub k a h2).2, fun j a h => f.mu j a (sub j a h).2⟩, fun q hq => Rep.mono kp _ _ (t q hq)⟩, I.st, I.av, I.om, fun q hq => ?_⟩
  · by_cases q : j = i
    · subst q
      have hj : j < os.length := by have := (List.getElem?_eq_some_iff.mp e).1; simpa using this
      rw [List.getElem?_set_self hj] at e
      cases e
    · rw [List.getElem?_set_ne (Ne.symm q)] at e
      obtain ⟨v', h, r⟩ := f.rep j o e
      refine ⟨v', by rw [List.getElem?_set_ne (Ne.symm q)]; exact h, ?_⟩
      rw [show fp' j = fp j from if_neg q]
      exact r.mono kp fun _ _ => rfl
  · have := I.pin q hq
    rw [List.getElem?_set_ne (Ne.symm (hp q hq))]; exact this
/-- the last cell is stored in the cell i -/
theorem ER.mv {o : O} {v : V} {i : Nat} (I : ER K F (vs ++ [some v]) H (os ++ [some o]) tmp) (hp : ∀ q ∈ F.pn, q.1 ≠ i ∧ q.1 < os.length) (hi : i < os.length) : ER K F (vs.set i (some v)) H (os.set i (some o)) tmp := by
  obtain ⟨fp, f, t⟩ := I.fit
  have n : vs.length = os.length := by have := I.len; simpa using this
  let fp' : Nat → List Addr := fun j => if j = i then fp os.length else if j < os.length then fp j else []
  have sub : ∀ j a, a ∈ fp' j → (j = i ∧ a ∈ fp os.length) ∨ (j ≠ i ∧ j < os.length ∧ a ∈ fp j) := fun j a h => by
    have h : a ∈ (if j = i then fp os.length else if j < os.length then fp j else []) := h
    by_cases q : j = i
    · rw [if_pos q] at h; exact .inl ⟨q, h⟩
    · rw [if_neg q] at h
      by_cases q2 : j < os.length
      · rw [if_pos q2] at h; exact .inr ⟨q, q2, h⟩
      · rw [if_neg q2] at h; cases h
  have sub' : ∀ j a, a ∈ fp' j → ∃ k, a ∈ fp k := fun j a h => by
    rcases sub j a h with ⟨_, z⟩ | ⟨_, _, z⟩ <;> exact ⟨_, z⟩
  have kp : Keep H (lv F.Av fp) H (lv F.Av fp') := Keep.shrink (lv_sub sub')
  refine ⟨by simp [n], ⟨fp', ⟨fun j o' e => ?_, fun j k a h1 h2 => ?_, fun j a h => let ⟨k, z⟩ := sub' j a h; f.mu k a z⟩, fun q hq => Rep.mono kp _ _ (t q hq)⟩, I.st, I.av, I.om, fun q hq => ?_⟩
  · by_cases q : j = i
    · subst q
      rw [List.getElem?_set_self hi] at e
      cases e
      obtain ⟨v', h, r⟩ := f.rep os.length o (by simp)
      have ev : v' = v := by rw [← n] at h; simp at h; exact h.symm
      subst ev
      refine ⟨v', by rw [List.getElem?_set_self (by rw [n]; exact hi)], ?_⟩
      rw [show fp' j = fp os.length from if_pos rfl]
      exact r.mono kp fun _ _ => rfl
    · rw [List.getElem?_set_ne (Ne.symm q)] at e
      have hj : j < os.length := (List.getElem?_eq_some_iff.mp e).1
      obtain ⟨v', h, r⟩ := f.rep j o' (by rw [List.getElem?_append_left hj]; exact e)
      rw [List.getElem?_append_left (by rw [n]; exact hj)] at h
      refine ⟨v', by rw [List.getElem?_set_ne (Ne.symm q)]; exact h, ?_⟩
      rw [show fp' j = fp j from (if_neg q).trans (if_pos hj)]
      exact r.mono kp fun _ _ => rfl
  · rcases sub j a h1 with ⟨z1, z2⟩ | ⟨z1, z3, z2⟩ <;> rcases sub k a h2 with ⟨y1, y2⟩ | ⟨y1, y3, y2⟩
    · rw [z1, y1]
    · have := f.dj _ _ a z2 y2; omega
    · have := f.dj _ _ a z2 y2; omega
    · exact f.dj _ _ a z2 y2
  · have := I.pin q hq
    rw [List.getElem?_append_left (by rw [n]; exact (hp q hq).2)] at this
    rw [List.getElem?_set_ne (Ne.symm (hp q hq).1)]; exact this
theorem RepC.froze {Lv : Addr → Prop} {a : Addr} {u : HO} {d : D} (e : H a = some u) (c : RepC K H Lv u d) (nl : ¬ Lv a) : Rep K H Lv d (.ref a) := (RepR.of_c e c).froze nl
/-- the last cell is settled: data from now on -/
theorem ER.freeze {o : O} {v : V} (I : ER K F (vs ++ [some v]) H (os ++ [some o]) tmp) (hp : ∀ q ∈ F.pn, q.1 < os.length) : ER K F vs H os ((view o, v) :: tmp) := by
  obtain ⟨fp, f, t⟩ := I.fit
  have n : vs.length = os.length := by have := I.len; simpa using this
  let fp' : Nat → List Addr := fun j => if j < os.length then fp j else []
  have sub : ∀ j a, a ∈ fp' j → j < os.length ∧ a ∈ fp j := fun j a h => by
    have h : a ∈ (if j < os.length then fp j else []) := h
    by_cases q2 : j < os.length
    · rw [if_pos q2] at h; exact ⟨q2, h⟩
    · rw [if_neg q2] at h; cases h
  have kp : Keep H (lv F.Av fp) H (lv F.Av fp') := Keep.shrink (lv_sub fun j a h => ⟨j, (sub j a h).2⟩)
  refine ⟨n, ⟨fp', ⟨fun j o' e => ?_, fun j k a h1 h2 => f.dj j k a (sub j a h1).2 (sub k a h2).2, fun j a h => f.mu j a (sub j a h).2⟩, fun q hq => ?_⟩, I.st, I.av, I.om, fun q hq => ?_⟩
  · have hj : j < os.length := (List.getElem?_eq_some_iff.mp e).1
    obtain ⟨v', h, r⟩ := f.rep j o' (by rw [List.getElem?_append_left hj]; exact e)
    rw [List.getElem?_append_left (by rw [n]; exact hj)] at h
    refine ⟨v', h, ?_⟩
    rw [show fp' j = fp j from if_pos hj]
    exact r.mono kp fun _ _ => rfl
  · rcases List.mem_cons.mp hq with rfl | hq
    · obtain ⟨v', h, r⟩ := f.rep os.length o (by simp)
      have ev : v' = v := by rw [← n] at h; simp at h; exact h.symm
      subst ev
      cases o with
      | val d => exact Rep.mono kp _ _ r.2
      | fl d =>
        obtain ⟨a, u, rfl, ea, e, c⟩ := r
        refine (c.mono kp).froze e fun z => ?_
        have hm : a ∈ fp os.length := by rw [ea]; simp
        rcases z with z | ⟨j, z⟩
        · exact (f.mu _ a hm).2.1 z
        · have := f.dj _ _ a (sub j a z).2 hm
          have := (sub j a z).1
          omega
    · exact Rep.mono kp _ _ (t q hq)
  · have := I.pin q hq
    rw [List.getElem?_append_left (by rw [n]; exact hp q hq)] at this
    exact this
/-- data as a new cell -/
theorem ER.thaw {d : D} {v : V} (I : ER K F vs H os ((d, v) :: tmp)) : ER K F (vs ++ [some v]) H (os ++ [some (.val d)]) tmp := by
  obtain ⟨fp, f, t⟩ := I.fit
  have n := I.len
  let fp' : Nat → List Addr := fun j => if j < os.length then fp j else []
  have sub : ∀ j a, a ∈ fp' j → j < os.length ∧ a ∈ fp j := fun j a h => by
    have h : a ∈ (if j < os.length then fp j else []) := h
    by_cases q2 : j < os.length
    · rw [if_pos q2] at h; exact ⟨q2, h⟩
    · rw [if_neg q2] at h; cases h
  have kp : Keep H (lv F.Av fp) H (lv F.Av fp') := Keep.shrink (lv_sub fun j a h => ⟨j, (sub j a h).2⟩)
  refine ⟨by simp [n], ⟨fp', ⟨fun j o' e => ?_, fun j k a h1 h2 => f.dj j k a (sub j a h1).2 (sub k a h2).2, fun j a h => f.mu j a (sub j a h).2⟩, fun q hq => Rep.mono kp _ _ (t q (List.mem_cons_of_mem _ hq))⟩, I.st, I.av, I.om, fun q hq => ?_⟩
  · by_cases hj : j < os.length
    · rw [List.getElem?_append_left hj] at e
      obtain ⟨v', h, r⟩ := f.rep j o' e
      refine ⟨v', by rw [List.getElem?_append_left (by rw [n]; exact hj)]; exact h, ?_⟩
      rw [show fp' j = fp j from if_pos hj]
      exact r.mono kp fun _ _ => rfl
    · have z : j = os.length := by
        have := (List.getElem?_eq_some_iff.mp e).1
        simp at this; omega
      subst z
      simp at e
      subst e
      refine ⟨v, by rw [← n]; simp, if_neg (Nat.lt_irrefl _), Rep.mono kp _ _ (t (d, v) List.mem_cons_self)⟩
  · have := I.pin q hq
    rw [List.getElem?_append_left (List.getElem?_eq_some_iff.mp this).1]; exact this
/-- the object of the cell i is changed -/
theorem ER.wr {i : Nat} {d : D} (I : ER K F vs H os tmp) (hi : os[i]? = some (some (.fl d))) : ∃ Lv a u, Opn K H Lv vs os tmp ∧ vs[i]? = some (some (.ref a)) ∧ H a = some u ∧ Mut (some u) ∧ RepC K H Lv u d ∧
    ∀ u' d', RepC K H Lv u' d' → ER K F vs (upd H a u') (os.set i (some (.fl d'))) tmp := by
  obtain ⟨fp, f, t⟩ := I.fit
  obtain ⟨v, h, a, u, rfl, ea, e, c⟩ := f.rep i _ hi
  have hm : a ∈ fp i := by rw [ea]; simp
  refine ⟨_, a, u, f.opn I t, h, e, c.mut, c, fun u' d' c' => ?_⟩
  have kp : Keep H (lv F.Av fp) (upd H a u') (lv F.Av fp) := ⟨fun b o q nl => by
      rw [upd_ne fun z => nl (.inr ⟨i, by rw [z]; exact hm⟩)]; exact q, fun b o q nm => by
      rw [upd_ne fun z => nm (by rw [z, e] at q; cases q; exact c.mut)]; exact q, fun _ _ _ n => n⟩
  refine ⟨by simp [I.len], ⟨fp, ⟨fun j o q => ?_, f.dj, fun j b hb => ?_⟩, fun q hq => Rep.mono kp _ _ (t q hq)⟩, fun b o q n => ?_, I.av, I.om, I.pin⟩
  · by_cases z : j = i
    · subst z
      have hj : j < os.length := (List.getElem?_eq_some_iff.mp hi).1
      rw [List.getElem?_set_self hj] at q
      cases q
      exact ⟨.ref a, h, a, u', rfl, ea, upd_same, c'.mono kp⟩
    · rw [List.getElem?_set_ne (Ne.symm z)] at q
      obtain ⟨v, h, r⟩ := f.rep j o q
      exact ⟨v, h, r.mono kp fun b hb => upd_ne fun y => z (f.dj j i a (by rw [← y]; exact hb) hm)⟩
  · have m := f.mu j b hb
    refine ⟨?_, m.2⟩
    by_cases z : b = a
    · subst z; rw [upd_same]; exact c'.mut
    · rw [upd_ne z]; exact m.1
  · have m := f.mu i a hm
    rw [upd_ne fun z => ?_]
    · exact I.st b o q n
    · subst z
      rcases m.2.2 with y | y
      · exact n y
      · rw [y] at q; cases q
/-- the last cell is dropped -/
theorem ER.drop {x : Option V} {y : Option O} (I : ER K F (vs ++ [x]) H (os ++ [y]) tmp) (hp : ∀ q ∈ F.pn, q.1 < os.length) : ER K F vs H os tmp := by
  obtain ⟨fp, f, t⟩ := I.fit
  have n : vs.length = os.length := by have := I.len; simpa using this
  refine ⟨n, ⟨fp, ⟨fun j o' e => ?_, f.dj, f.mu⟩, t⟩, I.st, I.av, I.om, fun q hq => ?_⟩
  · have hj : j < os.length := (List.getElem?_eq_some_iff.mp e).1
    obtain ⟨v', h, r⟩ := f.rep j o' (by rw [List.getElem?_append_left hj]; exact e)
    rw [List.getElem?_append_left (by rw [n]; exact hj)] at h
    exact ⟨v', h, r⟩
  · have := I.pin q hq
    rw [List.getElem?_append_left (by rw [n]; exact hp q hq)] at this
    exact this
end
end Dn
/-! What a def does with data: outcomes, judgements, calls. -/
namespace Dn
open PySem PySem.Spec PyProof.Rows L2

/-- an outcome: a value, an exception of the class at C with its fields (none: a class without __init__), or not told -/
inductive Out (α : Type) where
  | ok (a : α) (en : En) | ex (C : Addr) (fs : Option (List Str × List D)) (en : En) | bad
abbrev Xf := Option (List Str × List D)
def xds : Xf → List D
  | none => []
  | some (_, ds) => ds
def Xat (H : Hp) (fs : Xf) (dO : Option Addr) (ws : List V) : Prop := match fs with
  | none => dO = none ∧ ws = []
  | some (ns, ds) => ws.length = ds.length ∧ ns.length = ds.length ∧ ∃ d, dO = some d ∧ H d = some (.xd (ns.zip ws))
/-- behind a statement -/
inductive Fl where
  | nx | bk | ct | rt (o : O)
/-- behind a call: the value, the parameters' objects then -/
inductive FO where
  | ok (r : O) (ps : En) | ex (C : Addr) (fs : Xf) (ps : En) | bad
abbrev Fn := List O → FO
def Out.bind {α β : Type} (x : Out α) (k : α → En → Out β) : Out β := match x with
  | .ok a en => k a en
  | .ex C fs en => .ex C fs en
  | .bad => .bad
@[simp] theorem bind_ok {α β : Type} (a : α) (en : En) (k : α → En → Out β) : (Out.ok a en).bind k = k a en := rfl
@[simp] theorem bind_ex {α β : Type} (C : Addr) (fs : Xf) (en : En) (k : α → En → Out β) : (Out.ex C fs en).bind k = .ex C fs en := rfl
@[simp] theorem bind_bad {α β : Type} (k : α → En → Out β) : (Out.bad).bind k = .bad := rfl

/-- the surroundings of a piece of code while it runs: the frame, the further cells, what is remembered -/
structure Su where
  F : Fm
  xv : List (Option V)
  xo : En
  tmp : List (D × V)
  xl : xv.length = xo.length
section
variable (K : PySem.W.Frag)
/-- the state: slots σ, heap H, their data en -/
def Stt (S : Su) (σ : L2.St) (H : Hp) (en : En) (tmp : List (D × V)) : Prop := ER K S.F (σ ++ S.xv) H (en ++ S.xo) tmp
/-- an exception that leaves -/
def PoX (S : Su) (W : WX) (σ : L2.St) (C : Addr) (fs : Xf) (en : En) : Prop :=
  ∀ dO H ws, Stt K S σ H en ((xds fs).zip ws ++ S.tmp) → Xat H fs dO ws → W (.ref C) dO σ H
def PoE (S : Su) (W : WX) (σ : L2.St) (Q : VK) : Out D → Prop
  | .ok d en => ∀ v H, Stt K S σ H en ((d, v) :: S.tmp) → Q v H
  | .ex C fs en => PoX K S W σ C fs en
  | .bad => False
/-- .. that may be an object of its own -/
def PoF (S : Su) (W : WX) (σ : L2.St) (Q : VK) : Out O → Prop
  | .ok o en => ∀ v H, ER K S.F (σ ++ (S.xv ++ [some v])) H (en ++ (S.xo ++ [some o])) S.tmp → Q v H
  | .ex C fs en => PoX K S W σ C fs en
  | .bad => False
def PoT (S : Su) (W : WX) (σ : L2.St) (Q : Bool → Hp → Prop) : Out Bool → Prop
  | .ok b en => ∀ H, Stt K S σ H en S.tmp → Q b H
  | .ex C fs en => PoX K S W σ C fs en
  | .bad => False
/-- an argument: data, or the object of a slot -/
inductive AR where
  | t (d : D) | s (i : Nat)
def Hold (σ : L2.St) (tmp : List (D × V)) : AR → V → Prop
  | .t d, v => (d, v) ∈ tmp
  | .s i, v => σ[i]? = some (some v)
inductive Holds (σ : L2.St) (tmp : List (D × V)) : List AR → List V → Prop
  | nil : Holds σ tmp [] []
  | cons {a as v vs} : Hold σ tmp a v → Holds σ tmp as vs → Holds σ tmp (a :: as) (v :: vs)
def PoA (S : Su) (W : WX) (σ : L2.St) (Q : VK) : Out AR → Prop
  | .ok a en => ∀ v H tmp, (∀ q ∈ S.tmp, q ∈ tmp) → Stt K S σ H en tmp → Hold σ tmp a v → Q v H
  | .ex C fs en => PoX K S W σ C fs en
  | .bad => False
def PoAs (S : Su) (W : WX) (σ : L2.St) (Q : List V → Hp → Prop) : Out (List AR) → Prop
  | .ok as en => ∀ vs H tmp, (∀ q ∈ S.tmp, q ∈ tmp) → Stt K S σ H en tmp → Holds σ tmp as vs → Q vs H
  | .ex C fs en => PoX K S W σ C fs en
  | .bad => False
def PoS (S : Su) (W : WX) (σ : L2.St) (B : Ends) : Out Fl → Prop
  | .ok .nx en => ∀ σ' H, σ'.length = σ.length → Stt K S σ' H en S.tmp → B.nx σ' H
  | .ok .bk en => ∀ σ' H, σ'.length = σ.length → Stt K S σ' H en S.tmp → B.bk σ' H
  | .ok .ct en => ∀ σ' H, σ'.length = σ.length → Stt K S σ' H en S.tmp → B.ct σ' H
  | .ok (.rt o) en => ∀ v σ' H, σ'.length = σ.length → ER K S.F (σ' ++ (S.xv ++ [some v])) H (en ++ (S.xo ++ [some o])) S.tmp → B.rt v H
  | .ex C fs en => ∀ σ' dO H ws, σ'.length = σ.length → Stt K S σ' H en ((xds fs).zip ws ++ S.tmp) → Xat H fs dO ws → W (.ref C) dO σ' H
  | .bad => False
end
/-- n slots; the pins stand within them, at the places that P tells -/
structure Fine (n : Nat) (P : Nat → Bool) (S : Su) (en : En) : Prop where
  len : en.length = n
  pin : ∀ q ∈ S.F.pn, q.1 < n ∧ P q.1 = true

/-! ### judgements: over a family of contexts (a def's body: one; a comprehension's block, a try's body: all their starts), each with its wish for what is raised -/
section
variable {ι : Type} (X : ι → Cx) (Wf : ι → WX) (K : PySem.W.Frag) (n : Nat) (P : Nat → Bool)
structure DE (e : Expr) (f : En → Out D) : Prop where
  ex : ∃ t : WX → TE, (∀ i, PE (X i) e (t (Wf i))) ∧ ∀ (W : WX) (S : Su) σ H en Q, Fine n P S en → Stt K S σ H en S.tmp → PoE K S W σ Q (f en) → t W σ H Q
structure DF (e : Expr) (f : En → Out O) : Prop where
  ex : ∃ t : WX → TE, (∀ i, PE (X i) e (t (Wf i))) ∧ ∀ (W : WX) (S : Su) σ H en Q, Fine n P S en → Stt K S σ H en S.tmp → PoF K S W σ Q (f en) → t W σ H Q
structure DT (e : Expr) (f : En → Out Bool) : Prop where
  ex : ∃ t : WX → TT, (∀ i, PT (X i) e (t (Wf i))) ∧ ∀ (W : WX) (S : Su) σ H en Q, Fine n P S en → Stt K S σ H en S.tmp → PoT K S W σ Q (f en) → t W σ H Q
structure DW (e : Expr) (f : En → Out Bool) : Prop where
  ex : ∃ t : WX → TT, (∀ i, PW (X i) e (t (Wf i))) ∧ ∀ (W : WX) (S : Su) σ H en Q, Fine n P S en → Stt K S σ H en S.tmp → PoT K S W σ Q (f en) → t W σ H Q
structure DA (e : Expr) (f : En → Out AR) : Prop where
  ex : ∃ t : WX → TE, (∀ i, PE (X i) e (t (Wf i))) ∧ ∀ (W : WX) (S : Su) σ H en Q, Fine n P S en → Stt K S σ H en S.tmp → PoA K S W σ Q (f en) → t W σ H Q
structure DAs (es : List Expr) (f : En → Out (List AR)) : Prop where
  ex : ∃ t : WX → TA, (∀ i, PA (X i) es (t (Wf i))) ∧ ∀ (W : WX) (S : Su) σ H en Q, Fine n P S en → Stt K S σ H en S.tmp → PoAs K S W σ Q (f en) → t W σ H Q
structure DS (s : Stmt) (f : En → Out Fl) : Prop where
  ex : ∃ t : WX → TS, (∀ i, PS (X i) s (t (Wf i))) ∧ ∀ (W : WX) (S : Su) σ H en B, Fine n P S en → Stt K S σ H en S.tmp → PoS K S W σ B (f en) → t W B σ H
structure DSs (s : List Stmt) (f : En → Out Fl) : Prop where
  ex : ∃ t : WX → TS, (∀ i, PSs (X i) s (t (Wf i))) ∧ ∀ (W : WX) (S : Su) σ H en B, Fine n P S en → Stt K S σ H en S.tmp → PoS K S W σ B (f en) → t W B σ H
end

/-! ### the promise of a def -/
def SpD (K : PySem.W.Frag) (f : Fn) : Sp := fun vs H Q E => ∃ (F : Fm) (as : List O), F.H0 = H ∧ F.pn = [] ∧ ER K F (vs.map some) H (as.map some) [] ∧
  match f as with
  | .ok r ps => ∀ v H', ps.length = as.length → ER K F (vs.map some ++ [some v]) H' (ps ++ [some r]) [] → Q v H'
  | .ex C fs ps => ∀ dO H' ws, ps.length = as.length → ER K F (vs.map some) H' ps ((xds fs).zip ws) → Xat H' fs dO ws → E (.ref C) dO H'
  | .bad => False

/-! ### a call, seen from the caller -/
def wb (os : En) : List (Option Nat) → En → En
  | some i :: ss, p :: ps => (wb os ss ps).set i p
  | none :: ss, _ :: ps => wb os ss ps
  | _, _ => os
theorem wb_length {os : En} : ∀ {ss : List (Option Nat)} {ps : En}, (wb os ss ps).length = os.length
  | [], _ => by cases ‹En› <;> rfl
  | some i :: ss, [] => rfl
  | none :: ss, [] => rfl
  | some i :: ss, p :: ps => by unfold wb; rw [List.length_set]; exact wb_length
  | none :: ss, p :: ps => by unfold wb; exact wb_length
theorem wb_ne {os : En} {j : Nat} : ∀ {ss : List (Option Nat)} {ps : En}, (∀ k : Nat, ss[k]? ≠ some (some j)) → (wb os ss ps)[j]? = os[j]?
  | [], ps, _ => by cases ps <;> rfl
  | some i :: ss, [], _ => rfl
  | none :: ss, [], _ => rfl
  | some i :: ss, p :: ps, h => by
    unfold wb
    have hi : i ≠ j := fun z => h 0 (by rw [z]; rfl)
    rw [List.getElem?_set_ne hi]
    exact wb_ne fun k => h (k + 1)
  | none :: ss, p :: ps, h => by unfold wb; exact wb_ne fun k => h (k + 1)
/-- no slot is lent twice -/
def lent (ss : List (Option Nat)) : Bool := match ss with
  | [] => true
  | some i :: r => (!r.contains (some i)) && lent r
  | none :: r => lent r
theorem wb_at {os : En} {j : Nat} {p : Option O} : ∀ {ss : List (Option Nat)} {ps : En} {k : Nat}, lent ss = true → j < os.length → ss[k]? = some (some j) → ps[k]? = some p → (wb os ss ps)[j]? = some p
  | [], _, _, _, _, h, _ => by simp at h
  | some i :: ss, [], _, _, _, _, h => by simp at h
  | none :: ss, [], _, _, _, _, h => by simp at h
  | some i :: ss, q :: ps, 0, l, hj, h, h2 => by
    unfold wb
    cases h; cases h2
    rw [List.getElem?_set_self (by rw [wb_length]; exact hj)]
  | some i :: ss, q :: ps, k + 1, l, hj, h, h2 => by
    unfold wb
    unfold lent at l
    rw [Bool.and_eq_true] at l
    have hm : (some j) ∈ ss := List.mem_of_getElem? h
    have hi : i ≠ j := fun z => by
      have := l.1
      rw [z] at this
      simp [hm] at this
    rw [List.getElem?_set_ne hi]
    exact wb_at (k := k) l.2 hj h h2
  | none :: ss, q :: ps, 0, l, hj, h, h2 => by simp at h
  | none :: ss, q :: ps, k + 1, l, hj, h, h2 => by unfold wb; unfold lent at l; exact wb_at (k := k) l hj h h2
theorem lent_inj : ∀ {ss : List (Option Nat)} {j k l : Nat}, lent ss = true → ss[k]? = some (some j) → ss[l]? = some (some j) → k = l
  | [], _, _, _, _, h, _ => by simp at h
  | some i :: ss, j, 0, 0, _, _, _ => rfl
  | none :: ss, j, 0, _, _, h, _ => by simp at h
  | none :: ss, j, k + 1, 0, _, _, h => by simp at h
  | none :: ss, j, k + 1, l + 1, q, h, h2 => by unfold lent at q; rw [lent_inj (k := k) (l := l) q h h2]
  | some i :: ss, j, k + 1, l + 1, q, h, h2 => by
    unfold lent at q; rw [Bool.and_eq_true] at q; rw [lent_inj (k := k) (l := l) q.2 h h2]
  | some i :: ss, j, 0, l + 1, q, h, h2 => by
    unfold lent at q; rw [Bool.and_eq_true] at q
    have e : i = j := by simpa using h
    subst e
    have : (some i) ∈ ss := List.mem_of_getElem? h2
    have := q.1; simp_all
  | some i :: ss, j, k + 1, 0, q, h, h2 => by
    unfold lent at q; rw [Bool.and_eq_true] at q
    have e : i = j := by simpa using h2
    subst e
    have : (some i) ∈ ss := List.mem_of_getElem? h
    have := q.1; simp_all

def arS : AR → Option Nat
  | .t _ => none
  | .s i => some i
def arO (os : En) : AR → Option O
  | .t d => some (.val d)
  | .s i => match os[i]? with
    | some (some o) => some o
    | _ => none
def arOs (os : En) : List AR → Option (List O)
  | [] => some []
  | a :: as => match arO os a, arOs os as with
    | some o, some r => some (o :: r)
    | _, _ => none

section
variable {K : PySem.W.Frag} {F : Fm} {vs : List (Option V)} {H H' : Hp} {os : En} {tmp tmp' : List (D × V)}
/-- THE FRAME: the callee's frame from the caller's state, and the way back -/
theorem ER.call {ss : List (Option Nat)} {ws : List V} {as : List O} (I : ER K F vs H os tmp) (hl : ss.length = as.length) (hw : ws.length = as.length) (lt : lent ss = true)
    (hs : ∀ (k i : Nat), ss[k]? = some (some i) → os[i]? = some as[k]? ∧ vs[i]? = some ws[k]?)
    (hv : ∀ k : Nat, ss[k]? = some none → ∃ d v, as[k]? = some (.val d) ∧ ws[k]? = some v ∧ (d, v) ∈ tmp) :
    ∃ F' : Fm, F'.H0 = H ∧ F'.pn = [] ∧ ER K F' (ws.map some) H (as.map some) [] ∧
      ∀ H' ps r v more, ps.length = as.length → ER K F' (ws.map some ++ [some v]) H' (ps ++ [some r]) more → ER K F (vs ++ [some v]) H' (wb os ss ps ++ [some r]) (more ++ tmp) := by
  classical
  obtain ⟨fp, f, t⟩ := I.fit
  have n := I.len
  let bor : Nat → Prop := fun i => ∃ k : Nat, ss[k]? = some (some i)
  let F' : Fm := ⟨H, fun a => ∃ i, bor i ∧ a ∈ fp i, fun a => lv F.Av fp a ∧ ¬ ∃ i, bor i ∧ a ∈ fp i, []⟩
  let fq : Nat → List Addr := fun k => match ss[k]? with
    | some (some i) => fp i
    | _ => []
  have fqm : ∀ k a, a ∈ fq k → ∃ i, ss[k]? = some (some i) ∧ a ∈ fp i := fun k a h => by
    have h : a ∈ (match ss[k]? with | some (some i) => fp i | _ => []) := h
    split at h
    · exact ⟨_, by assumption, h⟩
    · cases h
  have lvq : ∀ a, lv F'.Av fq a → lv F.Av fp a := fun a z => by
    rcases z with z | ⟨k, z⟩
    · exact z.1
    · obtain ⟨i, _, z⟩ := fqm k a z
      exact .inr ⟨i, z⟩
  have kq : Keep H (lv F.Av fp) H (lv F'.Av fq) := Keep.shrink lvq
  have st1 : ER K F' (ws.map some) H (as.map some) [] := by
    refine ⟨by simp [hw], ⟨fq, ⟨fun k o e => ?_, fun k l a h1 h2 => ?_, fun k a h => ?_⟩, fun q hq => by cases hq⟩, fun a o e _ => e, fun a h => ⟨?_, h.2⟩, fun a ⟨i, _, h⟩ => (f.mu i a h).1, fun q hq => by cases hq⟩
    · rw [List.getElem?_map] at e
      have hk : k < as.length := by
        cases q : as[k]? with
        | none => rw [q] at e; cases e
        | some _ => exact (List.getElem?_eq_some_iff.mp q).1
      have ea : as[k]? = some o := by
        cases q : as[k]? with
        | none => rw [q] at e; cases e
        | some _ => rw [q] at e; cases e; rfl
      cases q : ss[k]? with
      | none => rw [List.getElem?_eq_none_iff] at q; omega
      | some y =>
        cases y with
        | none =>
          obtain ⟨d, v, h1, h2, h3⟩ := hv k q
          rw [ea] at h1; cases h1
          refine ⟨v, by rw [List.getElem?_map, h2]; rfl, ?_, Rep.mono kq _ _ (t _ h3)⟩
          show fq k = []
          simp only [fq, q]
        | some i =>
          obtain ⟨h1, h2⟩ := hs k i q
          rw [ea] at h1
          obtain ⟨v, h, r⟩ := f.rep i o h1
          have e3 : ws[k]? = some v := by rw [h] at h2; exact (Option.some.inj h2).symm
          refine ⟨v, by rw [List.getElem?_map, e3]; rfl, ?_⟩
          have : fq k = fp i := by simp only [fq, q]
          rw [this]
          exact r.mono kq fun _ _ => rfl
    · obtain ⟨i, q1, z1⟩ := fqm k a h1
      obtain ⟨j, q2, z2⟩ := fqm l a h2
      have := f.dj i j a z1 z2
      subst this
      exact lent_inj lt q1 q2
    · obtain ⟨i, q, z⟩ := fqm k a h
      exact ⟨(f.mu i a z).1, fun y => y.2 ⟨i, ⟨k, q⟩, z⟩, .inl ⟨i, ⟨k, q⟩, z⟩⟩
    · exact lv_mu I f a h.1
  refine ⟨F', rfl, rfl, st1, fun H' ps r v more hps J => ?_⟩
  obtain ⟨fp2, g, t2⟩ := J.fit
  -- what was alive elsewhere stands
  have keepA : ∀ a, lv F.Av fp a → (¬ ∃ i, bor i ∧ a ∈ fp i) → H' a = H a := fun a h1 h2 => by
    obtain ⟨u, e, _⟩ := mut_some (lv_mu I f a h1)
    rw [e]
    exact J.st a u e h2
  have keepB : ∀ a o, H a = some o → ¬ lv F.Av fp a → H' a = some o := fun a o e nl => J.st a o e fun ⟨i, _, z⟩ => nl (.inr ⟨i, z⟩)
  -- the new footprints
  let fn : Nat → List Addr := fun j => if h : bor j then fp2 (Classical.choose h) else if j = os.length then fp2 as.length else if j < os.length then fp j else []
  have bort : ∀ i k, ss[k]? = some (some i) → i < os.length := fun i k q => by
    have := (hs k i q).1
    exact (List.getElem?_eq_some_iff.mp this).1
  have fnb : ∀ i k, ss[k]? = some (some i) → fn i = fp2 k := fun i k q => by
    have hb : bor i := ⟨k, q⟩
    have : fn i = fp2 (Classical.choose hb) := dif_pos hb
    rw [this, lent_inj lt (Classical.choose_spec hb) q]
  have fnr : fn os.length = fp2 as.length := by
    have hb : ¬ bor os.length := fun ⟨k, q⟩ => absurd (bort _ k q) (Nat.lt_irrefl _)
    exact (dif_neg hb).trans (if_pos rfl)
  have fno : ∀ j, ¬ bor j → j < os.length → fn j = fp j := fun j hb hj => (dif_neg hb).trans ((if_neg (Nat.ne_of_lt hj)).trans (if_pos hj))
  have cases3 : ∀ j a, a ∈ fn j → (∃ k, ss[k]? = some (some j) ∧ a ∈ fp2 k) ∨ (j = os.length ∧ a ∈ fp2 as.length) ∨ (¬ bor j ∧ j < os.length ∧ a ∈ fp j) := fun j a h => by
    by_cases hb : bor j
    · obtain ⟨k, q⟩ := hb
      rw [fnb j k q] at h
      exact .inl ⟨k, q, h⟩
    · have h : a ∈ (if j = os.length then fp2 as.length else if j < os.length then fp j else []) := by
        have e : fn j = (if j = os.length then fp2 as.length else if j < os.length then fp j else []) := dif_neg hb
        rw [← e]; exact h
      by_cases q : j = os.length
      · rw [if_pos q] at h; exact .inr (.inl ⟨q, h⟩)
      · rw [if_neg q] at h
        by_cases q2 : j < os.length
        · rw [if_pos q2] at h; exact .inr (.inr ⟨hb, q2, h⟩)
        · rw [if_neg q2] at h; cases h
  have oldAv : ∀ j a, ¬ bor j → a ∈ fp j → F'.Av a := fun j a hb h => ⟨.inr ⟨j, h⟩, fun ⟨i, hi, z⟩ => hb (by rw [f.dj j i a h z]; exact hi)⟩
  have avAv : ∀ a, F.Av a → F'.Av a := fun a h => ⟨.inl h, fun ⟨i, _, z⟩ => (f.mu i a z).2.1 h⟩
  have new2 : ∀ k a, a ∈ fp2 k → ¬ F'.Av a ∧ ((∃ i, bor i ∧ a ∈ fp i) ∨ H a = none) := fun k a h => ⟨(g.mu k a h).2.1, (g.mu k a h).2.2⟩
  -- from the callee's view to the caller's
  have k2 : Keep H' (lv F'.Av fp2) H' (lv F.Av fn) := Keep.shrink fun a z => by
    rcases z with z | ⟨j, z⟩
    · exact .inl (avAv a z)
    · rcases cases3 j a z with ⟨k, _, z⟩ | ⟨_, z⟩ | ⟨hb, _, z⟩
      · exact .inr ⟨k, z⟩
      · exact .inr ⟨_, z⟩
      · exact .inl (oldAv j a hb z)
  have k1 : Keep H (lv F.Av fp) H' (lv F.Av fn) := ⟨keepB, fun a o e nm => by
      refine J.st a o e fun ⟨i, _, z⟩ => ?_
      have := (f.mu i a z).1
      rw [e] at this; exact nm this, fun a o e nl z => by
    rcases z with z | ⟨j, z⟩
    · exact nl (.inl z)
    · rcases cases3 j a z with ⟨k, _, z⟩ | ⟨_, z⟩ | ⟨_, _, z⟩
      · rcases (new2 k a z).2 with ⟨i, _, y⟩ | y
        · exact nl (.inr ⟨i, y⟩)
        · rw [e] at y; cases y
      · rcases (new2 _ a z).2 with ⟨i, _, y⟩ | y
        · exact nl (.inr ⟨i, y⟩)
        · rw [e] at y; cases y
      · exact nl (.inr ⟨j, z⟩)⟩
  refine ⟨by simp [n, wb_length], ⟨fn, ⟨fun j o e => ?_, fun j l a h1 h2 => ?_, fun j a h => ?_⟩, fun q hq => ?_⟩, fun a o e z => ?_, I.av, I.om, fun q hq => ?_⟩
  · by_cases hj : j < os.length
    · rw [List.getElem?_append_left (by rw [wb_length]; exact hj)] at e
      by_cases hb : bor j
      · obtain ⟨k, q⟩ := hb
        have hk : k < as.length := by rw [← hl]; exact (List.getElem?_eq_some_iff.mp q).1
        obtain ⟨p, ep⟩ : ∃ p, ps[k]? = some p := ⟨_, List.getElem?_eq_getElem (by omega)⟩
        rw [wb_at lt hj q ep] at e
        cases e
        obtain ⟨v', h, rr⟩ := g.rep k o (by rw [List.getElem?_append_left (by omega)]; exact ep)
        rw [List.getElem?_append_left (by simp; omega), List.getElem?_map] at h
        refine ⟨v', ?_, ?_⟩
        · rw [List.getElem?_append_left (by rw [n]; exact hj), (hs k j q).2]
          cases ew : ws[k]? with
          | none => rw [ew] at h; cases h
          | some w => rw [ew] at h; cases h; rfl
        · rw [fnb j k q]
          exact rr.mono k2 fun _ _ => rfl
      · rw [wb_ne fun k q => hb ⟨k, q⟩] at e
        obtain ⟨v', h, rr⟩ := f.rep j o e
        refine ⟨v', by rw [List.getElem?_append_left (by rw [n]; exact hj)]; exact h, ?_⟩
        rw [fno j hb hj]
        exact rr.mono k1 fun a ha => keepA a (.inr ⟨j, ha⟩) (oldAv j a hb ha).2
    · have z : j = os.length := by
        have := (List.getElem?_eq_some_iff.mp e).1
        simp [wb_length] at this; omega
      subst z
      have e' : o = r := by
        rw [List.getElem?_append_right (by rw [wb_length]; exact Nat.le_refl _)] at e
        simp [wb_length] at e; exact e.symm
      subst e'
      obtain ⟨v', h, rr⟩ := g.rep as.length o (by rw [← hps]; simp)
      have ev : v' = v := by
        have l0 : (ws.map some).length = as.length := by simp [hw]
        rw [← l0] at h; simp at h; exact h.symm
      subst ev
      refine ⟨v', by rw [← n]; simp, ?_⟩
      rw [fnr]
      exact rr.mono k2 fun _ _ => rfl
  · rcases cases3 j a h1 with ⟨k, q, z⟩ | ⟨q, z⟩ | ⟨hb, q, z⟩ <;> rcases cases3 l a h2 with ⟨k', q', z'⟩ | ⟨q', z'⟩ | ⟨hb', q', z'⟩
    · have := g.dj k k' a z z'
      subst this
      rw [q] at q'; cases q'; rfl
    · have := g.dj k _ a z z'
      have : k < as.length := by rw [← hl]; exact (List.getElem?_eq_some_iff.mp q).1
      omega
    · exact absurd (oldAv l a hb' z') (new2 k a z).1
    · have := g.dj _ k' a z z'
      have : k' < as.length := by rw [← hl]; exact (List.getElem?_eq_some_iff.mp q').1
      omega
    · rw [q, q']
    · exact absurd (oldAv l a hb' z') (new2 _ a z).1
    · exact absurd (oldAv j a hb z) (new2 k' a z').1
    · exact absurd (oldAv j a hb z) (new2 _ a z').1
    · exact f.dj j l a z z'
  · have fresh : ∀ k, a ∈ fp2 k → Mut (H' a) ∧ ¬ F.Av a ∧ (F.O0 a ∨ F.H0 a = none) := fun k z => by
      refine ⟨(g.mu k a z).1, fun y => (new2 k a z).1 (avAv a y), ?_⟩
      rcases (new2 k a z).2 with ⟨i, _, y⟩ | y
      · exact (f.mu i a y).2.2
      · by_cases q : F.O0 a
        · exact .inl q
        · refine .inr ?_
          cases e : F.H0 a with
          | none => rfl
          | some o => rw [I.st a o e q] at y; cases y
    rcases cases3 j a h with ⟨k, _, z⟩ | ⟨_, z⟩ | ⟨hb, _, z⟩
    · exact fresh k z
    · exact fresh _ z
    · have m := f.mu j a z
      refine ⟨?_, m.2⟩
      rw [keepA a (.inr ⟨j, z⟩) (oldAv j a hb z).2]; exact m.1
  · rcases List.mem_append.mp hq with hq | hq
    · exact Rep.mono k2 _ _ (t2 q hq)
    · exact Rep.mono k1 _ _ (t q hq)
  · have h1 := I.st a o e z
    by_cases q : ∃ i, bor i ∧ a ∈ fp i
    · obtain ⟨i, _, y⟩ := q
      rcases (f.mu i a y).2.2 with y | y
      · exact absurd y z
      · rw [y] at e; cases e
    · exact J.st a o h1 q
  · have := I.pin q hq
    rw [List.getElem?_append_left (List.getElem?_eq_some_iff.mp this).1]; exact this
end
end Dn
/-! Expressions over data. -/
namespace Dn
open PySem PySem.Spec PyProof.Rows L2

section
variable {K : PySem.W.Frag} {S : Su} {σ σ' : L2.St} {H H' : Hp} {en en' : En} {tmp tmp' : List (D × V)} {W : WX} {n : Nat} {P : Nat → Bool}
theorem Stt.len (I : Stt K S σ H en tmp) : σ.length = en.length := by
  have h := ER.len I
  have := S.xl
  simp only [List.length_append] at h
  omega
theorem Fine.to (f : Fine n P S en) (I : Stt K S σ H en tmp) (J : Stt K S σ' H' en' tmp') (l : σ'.length = σ.length) : Fine n P S en' := ⟨by rw [← J.len, l, I.len]; exact f.len, f.pin⟩
/-- the surroundings with more that is remembered -/
def Su.w (S : Su) (tmp : List (D × V)) : Su := ⟨S.F, S.xv, S.xo, tmp, S.xl⟩
theorem Fine.w (f : Fine n P S en) (tmp : List (D × V)) : Fine n P (S.w tmp) en := ⟨f.len, f.pin⟩
theorem PoX.w {C : Addr} {fs : Xf} (h : PoX K S W σ C fs en) (sub : ∀ q ∈ S.tmp, q ∈ tmp) : PoX K (S.w tmp) W σ C fs en := fun dO H ws I x =>
  h dO H ws (ER.sub I fun q hq => (List.mem_append.mp hq).elim (fun z => List.mem_append_left _ z) fun z => List.mem_append_right _ (sub q z)) x
theorem getL {xs ys : List (Option V)} {i : Nat} {v : V} (h : xs[i]? = some (some v)) : (xs ++ ys)[i]? = some (some v) := by
  rw [List.getElem?_append_left (List.getElem?_eq_some_iff.mp h).1]; exact h
theorem getE {xs ys : En} {i : Nat} {o : O} (h : xs[i]? = some (some o)) : (xs ++ ys)[i]? = some (some o) := by
  rw [List.getElem?_append_left (List.getElem?_eq_some_iff.mp h).1]; exact h
theorem Hold.mono {a : AR} {v : V} (h : Hold σ tmp a v) (s : ∀ q ∈ tmp, q ∈ tmp') : Hold σ tmp' a v := by
  cases a with
  | t d => exact s _ h
  | s i => exact h
theorem Holds.mono {as : List AR} {vs : List V} (h : Holds σ tmp as vs) (s : ∀ q ∈ tmp, q ∈ tmp') : Holds σ tmp' as vs := by
  induction h with
  | nil => exact .nil
  | cons a _ ih => exact .cons (a.mono s) ih
/-- what an argument shows -/
def viewA (en : En) : AR → Option D
  | .t d => some d
  | .s i => match en[i]? with
    | some (some o) => some (view o)
    | _ => none
def viewAs (en : En) : List AR → Option (List D)
  | [] => some []
  | a :: as => match viewA en a, viewAs en as with
    | some d, some ds => some (d :: ds)
    | _, _ => none
/-- what an argument hands on for ever -/
def frzA (en : En) : AR → Option D
  | .t d => some d
  | .s i => match en[i]? with
    | some (some (.val d)) => some d
    | _ => none
def frzAs (en : En) : List AR → Option (List D)
  | [] => some []
  | a :: as => match frzA en a, frzAs en as with
    | some d, some ds => some (d :: ds)
    | _, _ => none
def RepRs (K : PySem.W.Frag) (H : Hp) (Lv : Addr → Prop) : List D → List V → Prop
  | [], vs => vs = []
  | d :: ds, vs => ∃ v ws, vs = v :: ws ∧ RepR K H Lv d v ∧ RepRs K H Lv ds ws
theorem Opn.arg {Lv : Addr → Prop} {xv : List (Option V)} {xo : En} (I : Opn K H Lv (σ ++ xv) (en ++ xo) tmp) {a : AR} {v : V} {d : D} (h : Hold σ tmp a v) (e : viewA en a = some d) : RepR K H Lv d v := by
  cases a with
  | t d' => cases e; exact (I.tm _ h).r
  | s i =>
    simp only [viewA] at e
    split at e
    · rename_i o q
      cases e
      obtain ⟨v', e', r⟩ := I.sl i o (getE q)
      have h : σ[i]? = some (some v) := h
      rw [getL h] at e'
      cases e'
      exact r
    · cases e
theorem Opn.argF {Lv : Addr → Prop} {xv : List (Option V)} {xo : En} (I : Opn K H Lv (σ ++ xv) (en ++ xo) tmp) {a : AR} {v : V} {d : D} (h : Hold σ tmp a v) (e : frzA en a = some d) : Rep K H Lv d v := by
  cases a with
  | t d' => cases e; exact I.tm _ h
  | s i =>
    simp only [frzA] at e
    split at e
    · rename_i d' q
      cases e
      obtain ⟨v', e', r⟩ := I.sv i _ (getE q)
      have h : σ[i]? = some (some v) := h
      rw [getL h] at e'
      cases e'
      exact r
    · cases e
theorem Opn.args {Lv : Addr → Prop} {xv : List (Option V)} {xo : En} (I : Opn K H Lv (σ ++ xv) (en ++ xo) tmp) : ∀ {as : List AR} {vs : List V} {ds : List D}, Holds σ tmp as vs → viewAs en as = some ds → RepRs K H Lv ds vs
  | _, _, ds, .nil, e => by cases e; rfl
  | a :: as, v :: vs, ds, .cons h hs, e => by
    simp only [viewAs] at e
    split at e
    · rename_i d r e1 e2
      cases e
      exact ⟨v, vs, rfl, I.arg h e1, I.args hs e2⟩
    · cases e
theorem Opn.argsF {Lv : Addr → Prop} {xv : List (Option V)} {xo : En} (I : Opn K H Lv (σ ++ xv) (en ++ xo) tmp) : ∀ {as : List AR} {vs : List V} {ds : List D}, Holds σ tmp as vs → frzAs en as = some ds → RepL K H Lv ds vs
  | _, _, ds, .nil, e => by cases e; rfl
  | a :: as, v :: vs, ds, .cons h hs, e => by
    simp only [frzAs] at e
    split at e
    · rename_i d r e1 e2
      cases e
      exact ⟨v, vs, rfl, I.argF h e1, I.argsF hs e2⟩
    · cases e
end

/-! ### arguments -/
section
variable {ι : Type} {X : ι → Cx} {Wf : ι → WX} {K : PySem.W.Frag} {n : Nat} {P : Nat → Bool} {e a b : Expr} {es : List Expr} {pos : Pos}
theorem da_t {f : En → Out D} (h : DE X Wf K n P e f) : DA X Wf K n P e (fun en => (f en).bind fun d en => .ok (.t d) en) := by
  obtain ⟨t, p, r⟩ := h.ex
  refine ⟨t, p, fun W S σ H en Q fi I P => r W S σ H en Q fi I ?_⟩
  cases q : f en with
  | ok d en' => rw [q] at P; exact fun v H J => P v H _ (fun q h => List.mem_cons_of_mem _ h) J List.mem_cons_self
  | ex C fs en' => rw [q] at P; exact P
  | bad => rw [q] at P; exact P
def slotA (i : Nat) : En → Out AR := fun en => match en[i]? with
  | some (some _) => .ok (.s i) en
  | _ => .bad
theorem da_s {j : Nat} (p : ∀ i, PE (X i) e (tVar j)) : DA X Wf K n P e (slotA j) := by
  refine ⟨fun _ => tVar j, p, fun W S σ H en Q fi I P => ?_⟩
  unfold slotA at P
  split at P
  · rename_i o q
    obtain ⟨Lv, op, k⟩ := ER.opn I
    obtain ⟨v, e, _⟩ := op.sl j o (getE q)
    have hi : j < σ.length := by rw [Stt.len I]; exact (List.getElem?_eq_some_iff.mp q).1
    rw [List.getElem?_append_left hi] at e
    exact ⟨v, e, P v H S.tmp (fun _ h => h) I e⟩
  · exact P.elim
theorem das_nil : DAs X Wf K n P [] (fun en => .ok [] en) := ⟨fun _ => tNil, fun _ => pa_nil, fun W S σ H en Q fi I P => P [] H S.tmp (fun _ h => h) I .nil⟩
theorem das_cons {f : En → Out AR} {g : En → Out (List AR)} (h : DA X Wf K n P e f) (hs : DAs X Wf K n P es g) (st : ∀ i, starEach (e :: es) (X i).env = (false, eval e (X i).env) :: starEach es (X i).env := by intro _; rfl) :
    DAs X Wf K n P (e :: es) (fun en => (f en).bind fun a en => (g en).bind fun as en => .ok (a :: as) en) := by
  obtain ⟨t, p, r⟩ := h.ex
  obtain ⟨t2, p2, r2⟩ := hs.ex
  refine ⟨fun W => tCons (t W) (t2 W), fun i => pa_cons (p i) (p2 i) (st i), fun W S σ H en Q fi I P => r W S σ H en _ fi I ?_⟩
  cases q : f en with
  | ok a en1 =>
    rw [q] at P
    refine fun v H1 tmp1 s1 J h1 => r2 W (S.w tmp1) σ H1 en1 _ ((fi.to I J rfl).w _) J ?_
    have P : PoAs K S W σ Q ((g en1).bind fun as en => .ok (a :: as) en) := P
    cases q2 : g en1 with
    | ok as en2 =>
      rw [q2] at P
      exact fun vs H2 tmp2 s2 J2 h2 => P (v :: vs) H2 tmp2 (fun q h => s2 q (s1 q h)) J2 (.cons (h1.mono s2) h2)
    | ex C fs en' => rw [q2] at P; exact PoX.w P s1
    | bad => rw [q2] at P; exact P
  | ex C fs en' => rw [q] at P; exact P
  | bad => rw [q] at P; exact P

/-! ### values -/
theorem de_c {d : D} {v : V} (p : ∀ i, PE (X i) e (tC v)) (r : ∀ K H Lv, Rep K H Lv d v) : DE X Wf K n P e (fun en => .ok d en) := by
  refine ⟨fun _ => tC v, p, fun W S σ H en Q fi I P => P v H ?_⟩
  obtain ⟨Lv, _, k⟩ := ER.opn I
  exact k H _ Grow.refl fun q hq => (List.mem_cons.mp hq).elim (fun z => .inr (by rw [z]; exact r _ _ _)) .inl
theorem de_int {i j} : DE X Wf K n P (.Constant (.int i) j pos) (fun en => .ok (.int i) en) := de_c (fun _ => pe_int) fun _ _ _ => rfl
theorem de_bl {b j} : DE X Wf K n P (.Constant (.bool b) j pos) (fun en => .ok (.bl b) en) := de_c (fun _ => pe_bl) fun _ _ _ => rfl
theorem de_non {j} : DE X Wf K n P (.Constant .none j pos) (fun en => .ok .non en) := de_c (fun _ => pe_non) fun _ _ _ => rfl
theorem de_str {x j} (h : x.length ≤ sizeLine := by decide +kernel) : DE X Wf K n P (.Constant (.str x) j pos) (fun en => .ok (.str x) en) := de_c (fun _ => pe_str) fun _ _ _ => ⟨rfl, h⟩
/-- a slot's settled data -/
def slotD (i : Nat) : En → Out D := fun en => match en[i]? with
  | some (some (.val d)) => .ok d en
  | _ => .bad
theorem de_v {j : Nat} (p : ∀ i, PE (X i) e (tVar j)) : DE X Wf K n P e (slotD j) := by
  refine ⟨fun _ => tVar j, p, fun W S σ H en Q fi I P => ?_⟩
  unfold slotD at P
  split at P
  · rename_i d q
    obtain ⟨Lv, op, k⟩ := ER.opn I
    obtain ⟨v, e, r⟩ := op.sv j d (getE q)
    have hi : j < σ.length := by rw [Stt.len I]; exact (List.getElem?_eq_some_iff.mp q).1
    rw [List.getElem?_append_left hi] at e
    exact ⟨v, e, P v H (k H _ Grow.refl fun q hq => (List.mem_cons.mp hq).elim (fun z => .inr (by rw [z]; exact r)) .inl)⟩
  · exact P.elim

/-! ### operations by their rules -/
def Ok1 (K : PySem.W.Frag) (r : V → Hp → VK → Prop) (g : D → Option D) : Prop := ∀ (H : Hp) (Lv : Addr → Prop) (x : V) (d c : D) (Q : VK), (∀ a, Lv a → Mut (H a)) → RepR K H Lv d x → g d = some c →
  (∀ v H', Grow H H' → Rep K H' Lv c v → Q v H') → r x H Q
def Ok2 (K : PySem.W.Frag) (r : R2) (g : D → D → Option D) : Prop := ∀ (H : Hp) (Lv : Addr → Prop) (x y : V) (d e c : D) (Q : VK), (∀ a, Lv a → Mut (H a)) → RepR K H Lv d x → RepR K H Lv e y → g d e = some c →
  (∀ v H', Grow H H' → Rep K H' Lv c v → Q v H') → r x y H Q
def OkN (K : PySem.W.Frag) (r : List V → Hp → VK → Prop) (g : List D → Option D) : Prop := ∀ (H : Hp) (Lv : Addr → Prop) (vs : List V) (ds : List D) (c : D) (Q : VK), (∀ a, Lv a → Mut (H a)) → RepRs K H Lv ds vs → g ds = some c →
  (∀ v H', Grow H H' → Rep K H' Lv c v → Q v H') → r vs H Q
/-- .. that lay a new object -/
def OkNF (K : PySem.W.Frag) (r : List V → Hp → VK → Prop) (g : List D → Option D) : Prop := ∀ (H : Hp) (Lv : Addr → Prop) (vs : List V) (ds : List D) (c : D) (Q : VK), (∀ a, Lv a → Mut (H a)) → RepRs K H Lv ds vs → g ds = some c →
  (∀ p u, H p = none → RepC K H Lv u c → Q (.ref p) (upd H p u)) → r vs H Q
def liftO {α : Type} : Option α → En → Out α
  | some c, en => .ok c en
  | none, _ => .bad
def op1 (g : D → Option D) (f : En → Out AR) : En → Out D := fun en => (f en).bind fun a en => liftO ((viewA en a).bind g) en
def op2 (g : D → D → Option D) (f h : En → Out AR) : En → Out D := fun en => (f en).bind fun a en => (h en).bind fun b en => liftO ((viewA en a).bind fun x => (viewA en b).bind fun y => g x y) en
def opN (g : List D → Option D) (f : En → Out (List AR)) : En → Out D := fun en => (f en).bind fun as en => liftO ((viewAs en as).bind g) en
def opNF (g : List D → Option D) (f : En → Out (List AR)) : En → Out O := fun en => (f en).bind fun as en => liftO (((viewAs en as).bind g).map .fl) en
theorem bind_some {α β : Type} {x : Option α} {f : α → Option β} {c : β} (h : x.bind f = some c) : ∃ a, x = some a ∧ f a = some c := by
  cases x with
  | none => cases h
  | some a => exact ⟨a, rfl, h⟩
theorem liftD {W : WX} {S : Su} {σ : L2.St} {Q : VK} {x : Option D} {en : En} {K : PySem.W.Frag} (P : PoE K S W σ Q (liftO x en)) : ∃ c, x = some c ∧ ∀ v H, Stt K S σ H en ((c, v) :: S.tmp) → Q v H := by
  cases x with
  | none => exact P.elim
  | some c => exact ⟨c, rfl, P⟩
/-- the state behind a growth, the new value remembered -/
theorem ER.add {K : PySem.W.Frag} {F : Fm} {vs : List (Option V)} {H : Hp} {os : En} {tmp tmp' : List (D × V)} {Lv : Addr → Prop}
    (k : ∀ H' tmp', Grow H H' → (∀ q ∈ tmp', q ∈ tmp ∨ Rep K H' Lv q.1 q.2) → ER K F vs H' os tmp') {H' : Hp} (g : Grow H H') {c : D} {v : V} (r : Rep K H' Lv c v) (s : ∀ q ∈ tmp', q ∈ tmp) : ER K F vs H' os ((c, v) :: tmp') :=
  k H' _ g fun q hq => (List.mem_cons.mp hq).elim (fun z => .inr (by rw [z]; exact r)) fun z => .inl (s q z)
theorem de_op1 {r : V → Hp → VK → Prop} {g : D → Option D} {f : En → Out AR} (hr : Ok1 K r g) (ha : DA X Wf K n P a f) (mk : ∀ i t, PE (X i) a t → PE (X i) e (tUn r t)) : DE X Wf K n P e (op1 g f) := by
  obtain ⟨t, p, rd⟩ := ha.ex
  refine ⟨fun W => tUn r (t W), fun i => mk i _ (p i), fun W S σ H en Q fi I P => rd W S σ H en _ fi I ?_⟩
  unfold op1 at P
  cases q : f en with
  | ok a en1 =>
    rw [q] at P
    intro v H1 tmp1 s1 J h1
    obtain ⟨c, ec, P⟩ := liftD P
    obtain ⟨d, e1, e2⟩ := bind_some ec
    obtain ⟨Lv, op, k⟩ := ER.opn J
    exact hr H1 Lv v d c Q op.mu (op.arg h1 e1) e2 fun v' H' g r => P v' H' (ER.add k g r s1)
  | ex C fs en' => rw [q] at P; exact P
  | bad => rw [q] at P; exact P
theorem run2 {W : WX} {r : R2} {g : D → D → Option D} {f h : En → Out AR} {ta tb : TE} (hr : Ok2 K r g)
    (ra : ∀ (S : Su) σ H en Q, Fine n P S en → Stt K S σ H en S.tmp → PoA K S W σ Q (f en) → ta σ H Q)
    (rb : ∀ (S : Su) σ H en Q, Fine n P S en → Stt K S σ H en S.tmp → PoA K S W σ Q (h en) → tb σ H Q)
    (S : Su) (σ : L2.St) (H : Hp) (en : En) (Q : VK) (fi : Fine n P S en) (I : Stt K S σ H en S.tmp) (P : PoE K S W σ Q (op2 g f h en)) : tOp r ta tb σ H Q := by
  refine ra S σ H en _ fi I ?_
  unfold op2 at P
  cases q : f en with
  | ok a en1 =>
    rw [q] at P
    intro v H1 tmp1 s1 J h1
    refine rb (S.w tmp1) σ H1 en1 _ ((fi.to I J rfl).w _) J ?_
    have P : PoE K S W σ Q ((h en1).bind fun b en => liftO ((viewA en a).bind fun x => (viewA en b).bind fun y => g x y) en) := P
    cases q2 : h en1 with
    | ok b en2 =>
      rw [q2] at P
      intro u H2 tmp2 s2 J2 h2
      obtain ⟨c, ec, P⟩ := liftD P
      obtain ⟨d, e1, ec⟩ := bind_some ec
      obtain ⟨d', e2, ec⟩ := bind_some ec
      obtain ⟨Lv, op, k⟩ := ER.opn J2
      exact hr H2 Lv v u d d' c Q op.mu (op.arg (h1.mono s2) e1) (op.arg h2 e2) ec fun v' H' g r => P v' H' (ER.add k g r fun q h => s2 q (s1 q h))
    | ex C fs en' => rw [q2] at P; exact PoX.w P s1
    | bad => rw [q2] at P; exact P
  | ex C fs en' => rw [q] at P; exact P
  | bad => rw [q] at P; exact P
theorem de_op2 {r : R2} {g : D → D → Option D} {f h : En → Out AR} (hr : Ok2 K r g) (ha : DA X Wf K n P a f) (hb : DA X Wf K n P b h) (mk : ∀ i ta tb, PE (X i) a ta → PE (X i) b tb → PE (X i) e (tOp r ta tb)) : DE X Wf K n P e (op2 g f h) := by
  obtain ⟨ta, pa, ra⟩ := ha.ex
  obtain ⟨tb, pb, rb⟩ := hb.ex
  exact ⟨fun W => tOp r (ta W) (tb W), fun i => mk i _ _ (pa i) (pb i), fun W S σ H en Q fi I P => run2 hr (ra W) (rb W) S σ H en Q fi I P⟩
theorem de_opN {r : List V → Hp → VK → Prop} {g : List D → Option D} {f : En → Out (List AR)} (hr : OkN K r g) (ha : DAs X Wf K n P es f) (mk : ∀ i t, PA (X i) es t → PE (X i) e (tCB r t)) : DE X Wf K n P e (opN g f) := by
  obtain ⟨t, p, rd⟩ := ha.ex
  refine ⟨fun W => tCB r (t W), fun i => mk i _ (p i), fun W S σ H en Q fi I P => rd W S σ H en _ fi I ?_⟩
  unfold opN at P
  cases q : f en with
  | ok a en1 =>
    rw [q] at P
    intro v H1 tmp1 s1 J h1
    obtain ⟨c, ec, P⟩ := liftD P
    obtain ⟨d, e1, e2⟩ := bind_some ec
    obtain ⟨Lv, op, k⟩ := ER.opn J
    exact hr H1 Lv v d c Q op.mu (op.args h1 e1) e2 fun v' H' g r => P v' H' (ER.add k g r s1)
  | ex C fs en' => rw [q] at P; exact P
  | bad => rw [q] at P; exact P
theorem df_opN {r : List V → Hp → VK → Prop} {g : List D → Option D} {f : En → Out (List AR)} (hr : OkNF K r g) (ha : DAs X Wf K n P es f) (mk : ∀ i t, PA (X i) es t → PE (X i) e (tCB r t)) : DF X Wf K n P e (opNF g f) := by
  obtain ⟨t, p, rd⟩ := ha.ex
  refine ⟨fun W => tCB r (t W), fun i => mk i _ (p i), fun W S σ H en Q fi I P => rd W S σ H en _ fi I ?_⟩
  unfold opNF at P
  cases q : f en with
  | ok a en1 =>
    rw [q] at P
    intro v H1 tmp1 s1 J h1
    have P : PoF K S W σ Q (liftO (((viewAs en1 a).bind g).map .fl) en1) := P
    cases ec : (viewAs en1 a).bind g with
    | none => rw [ec] at P; exact P.elim
    | some c =>
      rw [ec] at P
      obtain ⟨d, e1, e2⟩ := bind_some ec
      -- the new object is laid in any state that holds; the content is asked at the frame's own Lv
      obtain ⟨fp, ft, tm⟩ := ER.fit J
      refine hr H1 (lv S.F.Av fp) v d c Q (ft.opn J tm).mu ((ft.opn J tm).args h1 e1) e2 fun p u hp hc => P (.ref p) _ ?_
      have N := ER.newOf J ft tm hp hc
      rw [List.append_assoc, List.append_assoc] at N
      exact N.sub s1
  | ex C fs en' => rw [q] at P; exact P
  | bad => rw [q] at P; exact P
/-- an object of its own, settled -/
theorem de_of_df {f : En → Out O} (h : DF X Wf K n P e f) : DE X Wf K n P e (fun en => (f en).bind fun o en => .ok (view o) en) := by
  obtain ⟨t, p, r⟩ := h.ex
  refine ⟨t, p, fun W S σ H en Q fi I P => r W S σ H en Q fi I ?_⟩
  cases q : f en with
  | ok o en' =>
    rw [q] at P
    refine fun v H J => P v H ?_
    rw [← List.append_assoc, ← List.append_assoc] at J
    refine ER.freeze J fun q hq => ?_
    have l1 := (fi.pin q hq).1
    have l2 := J.len
    have l3 := S.xl
    have l4 := Stt.len I
    have l5 := fi.len
    simp only [List.length_append, List.length_cons, List.length_nil] at l2 ⊢
    have : σ.length = en'.length := by omega
    omega
  | ex C fs en' => rw [q] at P; exact P
  | bad => rw [q] at P; exact P
theorem df_of_de {f : En → Out D} (h : DE X Wf K n P e f) : DF X Wf K n P e (fun en => (f en).bind fun d en => .ok (.val d) en) := by
  obtain ⟨t, p, r⟩ := h.ex
  refine ⟨t, p, fun W S σ H en Q fi I P => r W S σ H en Q fi I ?_⟩
  cases q : f en with
  | ok d en' =>
    rw [q] at P
    refine fun v H J => P v H ?_
    have := ER.thaw J
    rw [List.append_assoc, List.append_assoc] at this
    exact this
  | ex C fs en' => rw [q] at P; exact P
  | bad => rw [q] at P; exact P

/-! ### tests -/
def boolD : D → En → Out Bool
  | .bl b, en => .ok b en
  | _, _ => .bad
theorem dt_val {f : En → Out D} (h : DE X Wf K n P e f) (mk : ∀ i t, PE (X i) e t → PT (X i) e (tB t)) : DT X Wf K n P e (fun en => (f en).bind boolD) := by
  obtain ⟨t, p, r⟩ := h.ex
  refine ⟨fun W => tB (t W), fun i => mk i _ (p i), fun W S σ H en Q fi I P => r W S σ H en _ fi I ?_⟩
  cases q : f en with
  | ok d en' =>
    rw [q] at P
    cases d with
    | bl b =>
      intro v H J
      obtain ⟨Lv, op, _⟩ := ER.opn J
      have e : v = .bl b := op.tm _ List.mem_cons_self
      exact ⟨b, e, P H (ER.pop J)⟩
    | _ => exact (show False from P).elim
  | ex C fs en' => rw [q] at P; exact P
  | bad => rw [q] at P; exact P
theorem dt_op2 {r : R2} {g : D → D → Option D} {f h : En → Out AR} (hr : Ok2 K r g) (ha : DA X Wf K n P a f) (hb : DA X Wf K n P b h) (mk : ∀ i ta tb, PE (X i) a ta → PE (X i) b tb → PT (X i) e (tTest (tOp r ta tb))) :
    DT X Wf K n P e (fun en => (op2 g f h en).bind boolD) := by
  obtain ⟨ta, pa, ra⟩ := ha.ex
  obtain ⟨tb, pb, rb⟩ := hb.ex
  refine ⟨fun W => tTest (tOp r (ta W) (tb W)), fun i => mk i _ _ (pa i) (pb i), fun W S σ H en Q fi I P => run2 hr (ra W) (rb W) S σ H en _ fi I ?_⟩
  cases q : op2 g f h en with
  | ok d en' =>
    rw [q] at P
    cases d with
    | bl b =>
      intro v H J
      obtain ⟨Lv, op, _⟩ := ER.opn J
      have e : v = .bl b := op.tm _ List.mem_cons_self
      exact ⟨b, e, P H (ER.pop J)⟩
    | _ => exact (show False from P).elim
  | ex C fs en' => rw [q] at P; exact P
  | bad => rw [q] at P; exact P
theorem dt_not {f : En → Out Bool} (h : DT X Wf K n P a f) : DT X Wf K n P (.UnaryOp .Not a pos) (fun en => (f en).bind fun b en => .ok (!b) en) := by
  obtain ⟨t, p, r⟩ := h.ex
  refine ⟨fun W => tNot (t W), fun i => pt_not (p i), fun W S σ H en Q fi I P => r W S σ H en _ fi I ?_⟩
  cases q : f en with
  | ok b en' => rw [q] at P; exact P
  | ex C fs en' => rw [q] at P; exact P
  | bad => rw [q] at P; exact P
theorem dt_w {f : En → Out Bool} (h : DW X Wf K n P e f) : DT X Wf K n P e f := by
  obtain ⟨t, p, r⟩ := h.ex
  exact ⟨t, fun i => (p i).pt, r⟩
def andT (f g : En → Out Bool) : En → Out Bool := fun en => (f en).bind fun b en => if b = true then g en else .ok false en
def orT (f g : En → Out Bool) : En → Out Bool := fun en => (f en).bind fun b en => if b = true then .ok true en else g en
theorem dw_and1 {f : En → Out Bool} (h : DT X Wf K n P a f) : DW X Wf K n P (.BoolOp .And [a] pos) f := by
  obtain ⟨t, p, r⟩ := h.ex
  exact ⟨t, fun i => pw_and1 (p i), r⟩
theorem dw_or1 {f : En → Out Bool} (h : DT X Wf K n P a f) : DW X Wf K n P (.BoolOp .Or [a] pos) f := by
  obtain ⟨t, p, r⟩ := h.ex
  exact ⟨t, fun i => pw_or1 (p i), r⟩
theorem dw_and {rest : List Expr} {f g : En → Out Bool} (h : DT X Wf K n P a f) (h2 : DW X Wf K n P (.BoolOp .And (b :: rest) pos) g) : DW X Wf K n P (.BoolOp .And (a :: b :: rest) pos) (andT f g) := by
  obtain ⟨t, p, r⟩ := h.ex
  obtain ⟨t2, p2, r2⟩ := h2.ex
  refine ⟨fun W => tAnd (t W) (t2 W), fun i => pw_and (p i) (p2 i), fun W S σ H en Q fi I P => r W S σ H en _ fi I ?_⟩
  unfold andT at P
  cases q : f en with
  | ok c en' =>
    rw [q] at P
    intro H1 J
    cases c with
    | true => exact r2 W S σ H1 en' Q (fi.to I J rfl) J P
    | false => exact P H1 J
  | ex C fs en' => rw [q] at P; exact P
  | bad => rw [q] at P; exact P
theorem dw_or {rest : List Expr} {f g : En → Out Bool} (h : DT X Wf K n P a f) (h2 : DW X Wf K n P (.BoolOp .Or (b :: rest) pos) g) : DW X Wf K n P (.BoolOp .Or (a :: b :: rest) pos) (orT f g) := by
  obtain ⟨t, p, r⟩ := h.ex
  obtain ⟨t2, p2, r2⟩ := h2.ex
  refine ⟨fun W => tOr (t W) (t2 W), fun i => pw_or (p i) (p2 i), fun W S σ H en Q fi I P => r W S σ H en _ fi I ?_⟩
  unfold orT at P
  cases q : f en with
  | ok c en' =>
    rw [q] at P
    intro H1 J
    cases c with
    | true => exact P H1 J
    | false => exact r2 W S σ H1 en' Q (fi.to I J rfl) J P
  | ex C fs en' => rw [q] at P; exact P
  | bad => rw [q] at P; exact P
/-- and, or, not as values of flags -/
def andV (f g : En → Out D) : En → Out D := fun en => (f en).bind fun d en => match d with
  | .bl true => g en
  | .bl false => .ok (.bl false) en
  | _ => .bad
def orV (f g : En → Out D) : En → Out D := fun en => (f en).bind fun d en => match d with
  | .bl false => g en
  | .bl true => .ok (.bl true) en
  | _ => .bad
theorem repB {K : PySem.W.Frag} {S : Su} {σ : L2.St} {H : Hp} {en : En} {b : Bool} {v : V} {tmp : List (D × V)} (J : Stt K S σ H en ((.bl b, v) :: tmp)) : v = .bl b := by
  obtain ⟨Lv, op, _⟩ := ER.opn J
  exact op.tm _ List.mem_cons_self
theorem Stt.pushB {K : PySem.W.Frag} {S : Su} {σ : L2.St} {H : Hp} {en : En} {b : Bool} {tmp : List (D × V)} (J : Stt K S σ H en tmp) : Stt K S σ H en ((.bl b, .bl b) :: tmp) := by
  obtain ⟨Lv, _, k⟩ := ER.opn J
  exact k H _ Grow.refl fun q hq => (List.mem_cons.mp hq).elim (fun z => .inr (by rw [z]; exact rfl)) .inl
theorem de_one {op} {f : En → Out D} (h : DE X Wf K n P a f) : DE X Wf K n P (.BoolOp op [a] pos) f := by
  obtain ⟨t, p, r⟩ := h.ex
  exact ⟨t, fun i => pe_one (p i), r⟩
theorem de_and {rest : List Expr} {f g : En → Out D} (h : DE X Wf K n P a f) (h2 : DE X Wf K n P (.BoolOp .And (b :: rest) pos) g) : DE X Wf K n P (.BoolOp .And (a :: b :: rest) pos) (andV f g) := by
  obtain ⟨t, p, r⟩ := h.ex
  obtain ⟨t2, p2, r2⟩ := h2.ex
  refine ⟨fun W => tAndV (t W) (t2 W), fun i => pe_and (p i) (p2 i), fun W S σ H en Q fi I P => r W S σ H en _ fi I ?_⟩
  unfold andV at P
  cases q : f en with
  | ok d en' =>
    rw [q] at P
    cases d with
    | bl c =>
      intro v H1 J
      refine ⟨c, repB J, ?_⟩
      cases c with
      | true => exact r2 W S σ H1 en' Q (fi.to I J rfl) (ER.pop J) P
      | false => exact P _ H1 (Stt.pushB (ER.pop J))
    | _ => exact (show False from P).elim
  | ex C fs en' => rw [q] at P; exact P
  | bad => rw [q] at P; exact P
theorem de_or {rest : List Expr} {f g : En → Out D} (h : DE X Wf K n P a f) (h2 : DE X Wf K n P (.BoolOp .Or (b :: rest) pos) g) : DE X Wf K n P (.BoolOp .Or (a :: b :: rest) pos) (orV f g) := by
  obtain ⟨t, p, r⟩ := h.ex
  obtain ⟨t2, p2, r2⟩ := h2.ex
  refine ⟨fun W => tOrV (t W) (t2 W), fun i => pe_or (p i) (p2 i), fun W S σ H en Q fi I P => r W S σ H en _ fi I ?_⟩
  unfold orV at P
  cases q : f en with
  | ok d en' =>
    rw [q] at P
    cases d with
    | bl c =>
      intro v H1 J
      refine ⟨c, repB J, ?_⟩
      cases c with
      | false => exact r2 W S σ H1 en' Q (fi.to I J rfl) (ER.pop J) P
      | true => exact P _ H1 (Stt.pushB (ER.pop J))
    | _ => exact (show False from P).elim
  | ex C fs en' => rw [q] at P; exact P
  | bad => rw [q] at P; exact P
theorem de_not {f : En → Out D} (h : DE X Wf K n P a f) : DE X Wf K n P (.UnaryOp .Not a pos) (fun en => (f en).bind fun d en => match d with
    | .bl c => .ok (.bl (!c)) en
    | _ => .bad) := by
  obtain ⟨t, p, r⟩ := h.ex
  refine ⟨fun W => tNotV (t W), fun i => pe_not (p i), fun W S σ H en Q fi I P => r W S σ H en _ fi I ?_⟩
  cases q : f en with
  | ok d en' =>
    rw [q] at P
    cases d with
    | bl c =>
      intro v H1 J
      exact ⟨c, repB J, P _ H1 (Stt.pushB (ER.pop J))⟩
    | _ => exact (show False from P).elim
  | ex C fs en' => rw [q] at P; exact P
  | bad => rw [q] at P; exact P
theorem de_if {f : En → Out Bool} {g h : En → Out D} {c : Expr} (hc : DT X Wf K n P c f) (ha : DE X Wf K n P a g) (hb : DE X Wf K n P b h) : DE X Wf K n P (.IfExp c a b pos) (fun en => (f en).bind fun k en => if k = true then g en else h en) := by
  obtain ⟨t, p, r⟩ := hc.ex
  obtain ⟨t1, p1, r1⟩ := ha.ex
  obtain ⟨t2, p2, r2⟩ := hb.ex
  refine ⟨fun W => tIf (t W) (t1 W) (t2 W), fun i => pe_ifExp (p i) (p1 i) (p2 i), fun W S σ H en Q fi I P => r W S σ H en _ fi I ?_⟩
  cases q : f en with
  | ok k en' =>
    rw [q] at P
    intro H1 J
    cases k with
    | true => exact r1 W S σ H1 en' Q (fi.to I J rfl) J P
    | false => exact r2 W S σ H1 en' Q (fi.to I J rfl) J P
  | ex C fs en' => rw [q] at P; exact P
  | bad => rw [q] at P; exact P
end
end Dn
/-! Calls, statements, a def's promise. -/
namespace Dn
open PySem PySem.Spec PyProof.Rows L2

section
variable {K : PySem.W.Frag} {F : Fm} {vs vs' : List (Option V)} {H : Hp} {os os' : En} {tmp : List (D × V)}
/-- cells taken anew out of the old ones -/
theorem ER.sel {F' : Fm} (I : ER K F vs H os tmp) (hH : F'.H0 = F.H0) (hO : F'.O0 = F.O0) (hA : F'.Av = F.Av) (l : vs'.length = os'.length) (g : Nat → Nat)
    (hg : ∀ (j : Nat) (o : O), os'[j]? = some (some o) → os[g j]? = some (some o) ∧ vs'[j]? = vs[g j]?)
    (inj : ∀ (j k : Nat) (o p : O), os'[j]? = some (some o) → os'[k]? = some (some p) → g j = g k → j = k) (pn : ∀ q ∈ F'.pn, vs'[q.1]? = some (some q.2)) : ER K F' vs' H os' tmp := by
  obtain ⟨fp, f, t⟩ := I.fit
  let fp' : Nat → List Addr := fun j => match os'[j]? with
    | some (some _) => fp (g j)
    | _ => []
  have sub : ∀ j a, a ∈ fp' j → ∃ o, os'[j]? = some (some o) ∧ a ∈ fp (g j) := fun j a h => by
    have h : a ∈ (match os'[j]? with | some (some _) => fp (g j) | _ => []) := h
    split at h
    · exact ⟨_, by assumption, h⟩
    · cases h
  have kp : Keep H (lv F.Av fp) H (lv F'.Av fp') := Keep.shrink (by rw [hA]; exact lv_sub fun j a h => let ⟨_, _, z⟩ := sub j a h; ⟨_, z⟩)
  refine ⟨l, ⟨fp', ⟨fun j o e => ?_, fun j k a h1 h2 => ?_, fun j a h => ?_⟩, fun q hq => Rep.mono kp _ _ (t q hq)⟩, by rw [hH, hO]; exact I.st, by rw [hH, hO, hA]; exact I.av, by rw [hH, hO]; exact I.om, pn⟩
  · obtain ⟨e1, e2⟩ := hg j o e
    obtain ⟨v, h, r⟩ := f.rep _ o e1
    refine ⟨v, e2.trans h, ?_⟩
    have : fp' j = fp (g j) := by simp only [fp', e]
    rw [this]
    exact r.mono kp fun _ _ => rfl
  · obtain ⟨o, e1, z1⟩ := sub j a h1
    obtain ⟨p, e2, z2⟩ := sub k a h2
    exact inj j k o p e1 e2 (f.dj _ _ a z1 z2)
  · obtain ⟨o, e1, z1⟩ := sub j a h
    rw [hH, hO, hA]
    exact f.mu _ a z1
/-- an object of a slot's own is settled -/
theorem ER.settle {i : Nat} {d : D} (I : ER K F vs H os tmp) (hi : os[i]? = some (some (.fl d))) : ∃ v, vs[i]? = some (some v) ∧ ER K F vs H (os.set i (some (.val d))) ((d, v) :: tmp) := by
  obtain ⟨fp, f, t⟩ := I.fit
  obtain ⟨v, h, a, u, rfl, ea, e, c⟩ := f.rep i _ hi
  let fp' : Nat → List Addr := fun j => if j = i then [] else fp j
  have sub : ∀ j a, a ∈ fp' j → j ≠ i ∧ a ∈ fp j := fun j a h => by
    have h : a ∈ (if j = i then [] else fp j) := h
    by_cases q : j = i
    · rw [if_pos q] at h; cases h
    · rw [if_neg q] at h; exact ⟨q, h⟩
  have kp : Keep H (lv F.Av fp) H (lv F.Av fp') := Keep.shrink (lv_sub fun j a h => ⟨j, (sub j a h).2⟩)
  have hm : a ∈ fp i := by rw [ea]; simp
  have nl : ¬ lv F.Av fp' a := fun z => by
    rcases z with z | ⟨j, z⟩
    · exact (f.mu i a hm).2.1 z
    · exact (sub j a z).1 (f.dj j i a (sub j a z).2 hm)
  have rep : Rep K H (lv F.Av fp') d (.ref a) := (c.mono kp).froze e nl
  refine ⟨_, h, by simp [I.len], ⟨fp', ⟨fun j o e => ?_, fun j k a h1 h2 => f.dj j k a (sub j a h1).2 (sub k a h2).2, fun j a h => f.mu j a (sub j a h).2⟩, fun q hq => ?_⟩, I.st, I.av, I.om, I.pin⟩
  · by_cases q : j = i
    · subst q
      have hj : j < os.length := (List.getElem?_eq_some_iff.mp hi).1
      rw [List.getElem?_set_self hj] at e
      cases e
      exact ⟨_, h, if_pos rfl, rep⟩
    · rw [List.getElem?_set_ne (Ne.symm q)] at e
      obtain ⟨v', h, r⟩ := f.rep j o e
      refine ⟨v', h, ?_⟩
      rw [show fp' j = fp j from if_neg q]
      exact r.mono kp fun _ _ => rfl
  · rcases List.mem_cons.mp hq with rfl | hq
    · exact rep
    · exact Rep.mono kp _ _ (t q hq)
/-- empty cells behind -/
theorem ER.pad (I : ER K F vs H os tmp) (n : Nat) : ER K F (vs ++ List.replicate n none) H (os ++ List.replicate n none) tmp := by
  obtain ⟨fp, f, t⟩ := I.fit
  refine ⟨by simp [I.len], ⟨fp, ⟨fun j o e => ?_, f.dj, f.mu⟩, t⟩, I.st, I.av, I.om, fun q hq => ?_⟩
  · by_cases hj : j < os.length
    · rw [List.getElem?_append_left hj] at e
      obtain ⟨v', h, r⟩ := f.rep j o e
      exact ⟨v', by rw [List.getElem?_append_left (by rw [I.len]; exact hj)]; exact h, r⟩
    · rw [List.getElem?_append_right (Nat.le_of_not_lt hj), List.getElem?_replicate] at e
      split at e <;> cases e
  · have := I.pin q hq
    rw [List.getElem?_append_left (List.getElem?_eq_some_iff.mp this).1]; exact this
end

/-! ### calls -/
/-- an argument that is settled data needs no lending -/
def arN (en : En) : AR → AR
  | .t d => .t d
  | .s i => match en[i]? with
    | some (some (.val d)) => .t d
    | _ => .s i
def arL (en : En) (a : AR) : Option Nat := arS (arN en a)
def callD (F : Fn) (f : En → Out (List AR)) : En → Out O := fun en => (f en).bind fun as en => match arOs en as with
  | none => .bad
  | some os => if lent (as.map (arL en)) = true then match F os with
    | .ok r ps => .ok r (wb en (as.map (arL en)) ps)
    | .ex C fs ps => .ex C fs (wb en (as.map (arL en)) ps)
    | .bad => .bad
    else .bad
section
variable {K : PySem.W.Frag} {S : Su} {σ : L2.St} {H : Hp} {en : En} {tmp : List (D × V)}
theorem arFacts : ∀ {as : List AR} {vs : List V} {os : List O}, Holds σ tmp as vs → arOs en as = some os → as.length = os.length ∧ vs.length = os.length ∧
    (∀ (k i : Nat), (as.map arS)[k]? = some (some i) → ∃ o v, en[i]? = some (some o) ∧ os[k]? = some o ∧ σ[i]? = some (some v) ∧ vs[k]? = some v) ∧
    ∀ k : Nat, (as.map arS)[k]? = some none → ∃ d v, os[k]? = some (.val d) ∧ vs[k]? = some v ∧ (d, v) ∈ tmp
  | _, _, os, .nil, e => by cases e; exact ⟨rfl, rfl, fun k i h => by simp at h, fun k h => by simp at h⟩
  | a :: as, v :: vs, os, .cons h hs, e => by
    simp only [arOs] at e
    split at e
    · rename_i o r e1 e2
      cases e
      obtain ⟨l1, l2, f1, f2⟩ := arFacts hs e2
      refine ⟨by simp [l1], by simp [l2], fun k i q => ?_, fun k q => ?_⟩
      · cases k with
        | zero =>
          cases a with
          | t d => simp [arS] at q
          | s j =>
            simp [arS] at q
            subst q
            simp only [arO] at e1
            split at e1
            · rename_i o' e3
              cases e1
              exact ⟨o, v, e3, rfl, h, rfl⟩
            · cases e1
        | succ k => exact f1 k i (by simpa using q)
      · cases k with
        | zero =>
          cases a with
          | t d => cases e1; exact ⟨d, v, rfl, rfl, h⟩
          | s j => simp [arS] at q
        | succ k => exact f2 k (by simpa using q)
    · cases e
theorem arO_N {a : AR} : arO en (arN en a) = arO en a := by
  cases a with
  | t d => rfl
  | s i =>
    simp only [arN]
    split
    · rename_i d e
      simp only [arO, e]
    · rfl
theorem arOs_N : ∀ {as : List AR}, arOs en (as.map (arN en)) = arOs en as
  | [] => rfl
  | a :: as => by
    rw [List.map_cons]
    simp only [arOs]
    rw [arO_N, arOs_N]
theorem settle : ∀ {as : List AR} {vs : List V}, Holds σ tmp as vs → Stt K S σ H en tmp → ∃ tmp', (∀ q ∈ tmp, q ∈ tmp') ∧ Stt K S σ H en tmp' ∧ Holds σ tmp' (as.map (arN en)) vs
  | _, _, .nil, J => ⟨tmp, fun _ h => h, J, .nil⟩
  | a :: as, v :: vs, .cons h hs, J => by
    obtain ⟨tmp1, s1, J1, h1⟩ := settle hs J
    have up : ∀ {t2 : List (D × V)} {as : List AR} {vs : List V}, (∀ q ∈ tmp1, q ∈ t2) → Holds σ tmp1 as vs → Holds σ t2 as vs := fun s h => by
      induction h with
      | nil => exact .nil
      | cons a _ ih => exact .cons (a.mono s) ih
    have plain : Hold σ tmp1 a v → arN en a = a → ∃ tmp', (∀ q ∈ tmp, q ∈ tmp') ∧ Stt K S σ H en tmp' ∧ Holds σ tmp' ((a :: as).map (arN en)) (v :: vs) := fun h e => ⟨tmp1, s1, J1, by rw [List.map_cons, e]; exact .cons h h1⟩
    cases a with
    | t d => exact plain (h.mono s1) rfl
    | s i =>
      cases e : en[i]? with
      | none => exact plain (h.mono s1) (by simp only [arN, e])
      | some o =>
        cases o with
        | none => exact plain (h.mono s1) (by simp only [arN, e])
        | some o =>
          cases o with
          | fl d => exact plain (h.mono s1) (by simp only [arN, e])
          | val d =>
            obtain ⟨Lv, op, k⟩ := ER.opn J1
            obtain ⟨v', e1, r⟩ := op.sv i d (getE e)
            have h : σ[i]? = some (some v) := h
            rw [getL h] at e1
            cases e1
            refine ⟨(d, v) :: tmp1, fun q hq => List.mem_cons_of_mem _ (s1 q hq), k H _ Grow.refl fun q hq => (List.mem_cons.mp hq).elim (fun z => .inr (by rw [z]; exact r)) .inl, ?_⟩
            rw [List.map_cons]
            simp only [arN, e]
            exact .cons (show (d, v) ∈ _ from List.mem_cons_self) (up (fun q hq => List.mem_cons_of_mem _ hq) h1)
theorem wb_app {xo : En} : ∀ {ss : List (Option Nat)} {ps : En}, (∀ (k i : Nat), ss[k]? = some (some i) → i < en.length) → wb (en ++ xo) ss ps = wb en ss ps ++ xo
  | [], ps, _ => by cases ps <;> rfl
  | some i :: ss, [], _ => rfl
  | none :: ss, [], _ => rfl
  | some i :: ss, p :: ps, h => by
    unfold wb
    rw [wb_app fun k i q => h (k + 1) i q, List.set_append_left _ _ (by rw [wb_length]; exact h 0 i rfl)]
  | none :: ss, p :: ps, h => by unfold wb; exact wb_app fun k i q => h (k + 1) i q
end
section
variable {ι : Type} {X : ι → Cx} {Wf : ι → WX} {K : PySem.W.Frag} {n : Nat} {P : Nat → Bool} {e a b : Expr} {es : List Expr} {pos : Pos}
/-- the reading of a call, from the state at it -/
theorem callRun0 {W : WX} {F : Fn} {Q : VK} {S : Su} {σ : L2.St} {H : Hp} {en : En} {tmp : List (D × V)} {as : List AR} {vs : List V} (fi : Fine n P S en) (J : Stt K S σ H en tmp) (hs : Holds σ tmp as vs) (s1 : ∀ q ∈ S.tmp, q ∈ tmp)
    (P : PoF K S W σ Q (match arOs en as with
      | none => .bad
      | some os => if lent (as.map arS) = true then match F os with
        | .ok r ps => .ok r (wb en (as.map arS) ps)
        | .ex C fs ps => .ex C fs (wb en (as.map arS) ps)
        | .bad => .bad
        else .bad)) : SpD K F vs H Q (WE W σ) := by
  cases e1 : arOs en as with
  | none => rw [e1] at P; exact P.elim
  | some os =>
    simp only [e1] at P
    by_cases lt : lent (as.map arS) = true
    · rw [if_pos lt] at P
      obtain ⟨l1, l2, f1, f2⟩ := arFacts (en := en) hs e1
      have ltn : ∀ (k i : Nat), (as.map arS)[k]? = some (some i) → i < en.length := fun k i q => by
        obtain ⟨o, v, e, _⟩ := f1 k i q
        exact (List.getElem?_eq_some_iff.mp e).1
      obtain ⟨F', h0, hp, st, back⟩ := ER.call (K := K) (ss := as.map arS) (ws := vs) (as := os) J (by simp [l1]) l2 lt (fun k i q => by
        obtain ⟨o, v, e1, e2, e3, e4⟩ := f1 k i q
        exact ⟨by rw [getE e1, e2], by rw [getL e3, e4]⟩) f2
      have pin : ∀ q ∈ S.F.pn, ∀ m : En, m.length = en.length → q.1 < (m ++ S.xo).length := fun q hq m hm => by
        have l1 := (fi.pin q hq).1
        have l5 := fi.len
        simp only [List.length_append]
        omega
      refine ⟨F', os, h0, hp, st, ?_⟩
      cases e2 : F os with
      | bad => rw [e2] at P; exact P.elim
      | ok r ps =>
        rw [e2] at P
        intro v H' hps E1
        refine P v H' ?_
        have E2 := back H' ps r v [] hps E1
        rw [List.nil_append, wb_app ltn, List.append_assoc, List.append_assoc] at E2
        exact E2.sub s1
      | ex C fs ps =>
        rw [e2] at P
        intro dO H' ws hps E1 xa
        refine P dO H' ws ?_ xa
        -- a cell of nothing, for the way back
        have E0 : ER K F' (vs.map some) H' ps ((.non, .non) :: (xds fs).zip ws) := by
          obtain ⟨Lv, _, k⟩ := E1.opn
          exact k H' _ Grow.refl fun q hq => (List.mem_cons.mp hq).elim (fun z => .inr (by rw [z]; exact rfl)) .inl
        have E2 := back H' ps (.val .non) .non _ hps (ER.thaw E0)
        rw [wb_app ltn] at E2
        exact (ER.drop E2 fun q hq => pin q hq _ wb_length).sub fun q hq => (List.mem_append.mp hq).elim (fun z => List.mem_append_left _ z) fun z => List.mem_append_right _ (s1 q z)
    · rw [if_neg lt] at P; exact P.elim
theorem callRun {W : WX} {F : Fn} {Q : VK} {S : Su} {σ : L2.St} {H : Hp} {en : En} {tmp : List (D × V)} {as : List AR} {vs : List V} (fi : Fine n P S en) (J : Stt K S σ H en tmp) (hs : Holds σ tmp as vs) (s1 : ∀ q ∈ S.tmp, q ∈ tmp)
    (Po : PoF K S W σ Q (match arOs en as with
      | none => .bad
      | some os => if lent (as.map (arL en)) = true then match F os with
        | .ok r ps => .ok r (wb en (as.map (arL en)) ps)
        | .ex C fs ps => .ex C fs (wb en (as.map (arL en)) ps)
        | .bad => .bad
        else .bad)) : SpD K F vs H Q (WE W σ) := by
  obtain ⟨tmp', s2, J2, h2⟩ := settle hs J
  refine callRun0 fi J2 h2 (fun q hq => s2 q (s1 q hq)) ?_
  rw [arOs_N, List.map_map]
  exact Po
theorem df_call {F : Fn} {f : En → Out (List AR)} (ha : DAs X Wf K n P es f) (mk : ∀ i t, PA (X i) es t → PE (X i) e (tCallS (SpD K F) (WE (Wf i)) t)) : DF X Wf K n P e (callD F f) := by
  obtain ⟨t, p, rd⟩ := ha.ex
  refine ⟨fun W => tCallS (SpD K F) (WE W) (t W), fun i => mk i _ (p i), fun W S σ H en Q fi I P => rd W S σ H en _ fi I ?_⟩
  unfold callD at P
  cases q : f en with
  | ok as en1 =>
    rw [q] at P
    exact fun vs H1 tmp1 s1 J h1 => callRun (fi.to I J rfl) J h1 s1 P
  | ex C fs en' => rw [q] at P; exact P
  | bad => rw [q] at P; exact P
end

/-! ### statements -/
section
variable {ι : Type} {X : ι → Cx} {Wf : ι → WX} {K : PySem.W.Frag} {n : Nat} {P : Nat → Bool} {s : Stmt} {ss : List Stmt} {e a b : Expr} {pos : Pos}
theorem PoS.len {W : WX} {K : PySem.W.Frag} {S : Su} {σ σ' : L2.St} {B : Ends} {o : Out Fl} (h : PoS K S W σ B o) (l : σ'.length = σ.length) : PoS K S W σ' B o := by
  cases o with
  | ok fl en =>
    cases fl with
    | nx => exact fun σ2 H l2 => h σ2 H (l2.trans l)
    | bk => exact fun σ2 H l2 => h σ2 H (l2.trans l)
    | ct => exact fun σ2 H l2 => h σ2 H (l2.trans l)
    | rt o => exact fun v σ2 H l2 => h v σ2 H (l2.trans l)
  | ex C fs en => exact fun σ2 dO H ws l2 => h σ2 dO H ws (l2.trans l)
  | bad => exact h
theorem PoS.x {W : WX} {K : PySem.W.Frag} {S : Su} {σ : L2.St} {B : Ends} {C : Addr} {fs : Xf} {en : En} (h : PoS K S W σ B (.ex C fs en)) : PoX K S W σ C fs en := fun dO H ws I x => h σ dO H ws rfl I x
def setD (i : Nat) (f : En → Out D) : En → Out Fl := fun en => (f en).bind fun d en => .ok .nx (en.set i (some (.val d)))
theorem pinNe {S : Su} {en : En} {n i : Nat} (fi : Fine n P S en) (h : P i = false) : ∀ q ∈ S.F.pn, q.1 ≠ i := fun q hq z => by
  have := (fi.pin q hq).2
  rw [z, h] at this
  cases this
theorem ds_set {i : Nat} {f : En → Out D} (hi : i < n) (hP : P i = false) (he : DE X Wf K n P e f) (mk : ∀ k t, PE (X k) e t → PS (X k) s (tAsg t (gName i))) : DS X Wf K n P s (setD i f) := by
  obtain ⟨t, p, r⟩ := he.ex
  refine ⟨fun W => tAsg (t W) (gName i), fun k => mk k _ (p k), fun W S σ H en B fi I Po => r W S σ H en _ fi I ?_⟩
  unfold setD at Po
  cases q : f en with
  | ok d en' =>
    rw [q] at Po
    intro v H1 J
    have l : i < σ.length := by rw [Stt.len I, fi.len]; exact hi
    have l' : i < en'.length := by rw [← Stt.len J]; exact l
    refine Po (σ.set i (some v)) H1 (by simp) ?_
    have := ER.set (i := i) J (pinNe fi hP)
    rw [List.set_append_left _ _ l, List.set_append_left _ _ l'] at this
    exact this
  | ex C fs en' => rw [q] at Po; exact Po.x
  | bad => rw [q] at Po; exact Po
def setO (i : Nat) (f : En → Out O) : En → Out Fl := fun en => (f en).bind fun o en => .ok .nx (en.set i (some o))
theorem ds_setO {i : Nat} {f : En → Out O} (hi : i < n) (hP : P i = false) (he : DF X Wf K n P e f) (mk : ∀ k t, PE (X k) e t → PS (X k) s (tAsg t (gName i))) : DS X Wf K n P s (setO i f) := by
  obtain ⟨t, p, r⟩ := he.ex
  refine ⟨fun W => tAsg (t W) (gName i), fun k => mk k _ (p k), fun W S σ H en B fi I Po => r W S σ H en _ fi I ?_⟩
  unfold setO at Po
  cases q : f en with
  | ok o en' =>
    rw [q] at Po
    intro v H1 J
    have l : i < σ.length := by rw [Stt.len I, fi.len]; exact hi
    have lj := J.len
    have lx := S.xl
    have ls := Stt.len I
    simp only [List.length_append, List.length_cons, List.length_nil] at lj
    have ll : σ.length = en'.length := by omega
    refine Po (σ.set i (some v)) H1 (by simp) ?_
    rw [← List.append_assoc, ← List.append_assoc] at J
    have := ER.mv (i := i) J (fun q hq => ⟨pinNe fi hP q hq, by
      have := (fi.pin q hq).1
      have := fi.len
      simp only [List.length_append]
      omega⟩) (by simp only [List.length_append]; omega)
    rw [List.set_append_left _ _ l, List.set_append_left _ _ (by omega)] at this
    exact this
  | ex C fs en' => rw [q] at Po; exact Po.x
  | bad => rw [q] at Po; exact Po
theorem ds_drop {f : En → Out D} (he : DE X Wf K n P e f) (mk : ∀ i t, PE (X i) e t → PS (X i) s (tDrop t)) : DS X Wf K n P s (fun en => (f en).bind fun _ en => .ok .nx en) := by
  obtain ⟨t, p, r⟩ := he.ex
  refine ⟨fun W => tDrop (t W), fun i => mk i _ (p i), fun W S σ H en B fi I Po => r W S σ H en _ fi I ?_⟩
  cases q : f en with
  | ok o en' =>
    rw [q] at Po
    exact fun v H1 J => Po σ H1 rfl (ER.pop J)
  | ex C fs en' => rw [q] at Po; exact Po.x
  | bad => rw [q] at Po; exact Po
def retF (f : En → Out O) : En → Out Fl := fun en => (f en).bind fun o en => .ok (.rt o) en
theorem ds_ret {f : En → Out O} (he : DF X Wf K n P e f) : DS X Wf K n P (.Return (some e) pos) (retF f) := by
  obtain ⟨t, p, r⟩ := he.ex
  refine ⟨fun W => tRet (t W), fun i => ps_ret (p i), fun W S σ H en B fi I Po => r W S σ H en _ fi I ?_⟩
  unfold retF at Po
  cases q : f en with
  | ok o en' =>
    rw [q] at Po
    exact fun v H1 J => Po v σ H1 rfl J
  | ex C fs en' => rw [q] at Po; exact Po.x
  | bad => rw [q] at Po; exact Po
def ifD (c : En → Out Bool) (f g : En → Out Fl) : En → Out Fl := fun en => (c en).bind fun k en => if k = true then f en else g en
theorem ds_if {c : Expr} {sa sb : List Stmt} {k : En → Out Bool} {f g : En → Out Fl} (hc : DT X Wf K n P c k) (ha : DSs X Wf K n P sa f) (hb : DSs X Wf K n P sb g) : DS X Wf K n P (.If c sa sb pos) (ifD k f g) := by
  obtain ⟨t, p, r⟩ := hc.ex
  obtain ⟨t1, p1, r1⟩ := ha.ex
  obtain ⟨t2, p2, r2⟩ := hb.ex
  refine ⟨fun W => tIfS (t W) (t1 W) (t2 W), fun i => ps_if (p i) (p1 i) (p2 i), fun W S σ H en B fi I Po => r W S σ H en _ fi I ?_⟩
  unfold ifD at Po
  cases q : k en with
  | ok k en' =>
    rw [q] at Po
    intro H1 J
    cases k with
    | true => exact r1 W S σ H1 en' B (fi.to I J rfl) J Po
    | false => exact r2 W S σ H1 en' B (fi.to I J rfl) J Po
  | ex C fs en' => rw [q] at Po; exact Po.x
  | bad => rw [q] at Po; exact Po
theorem ds_pass : DS X Wf K n P (.Pass pos) (fun en => .ok .nx en) := ⟨fun _ => tNext, fun _ => ps_pass, fun W S σ H en B fi I Po => Po σ H rfl I⟩
theorem ds_break : DS X Wf K n P (.Break pos) (fun en => .ok .bk en) := ⟨fun _ => tBreak, fun _ => ps_break, fun W S σ H en B fi I Po => Po σ H rfl I⟩
theorem ds_continue : DS X Wf K n P (.Continue pos) (fun en => .ok .ct en) := ⟨fun _ => tCont, fun _ => ps_continue, fun W S σ H en B fi I Po => Po σ H rfl I⟩
theorem ds_doc {x j pos'} : DS X Wf K n P (.Expr (.Constant (.str x) j pos) pos') (fun en => .ok .nx en) := ⟨fun _ => tNext, fun _ => ps_doc, fun W S σ H en B fi I Po => Po σ H rfl I⟩
def seqD (f g : En → Out Fl) : En → Out Fl := fun en => (f en).bind fun fl en => match fl with
  | .nx => g en
  | fl => .ok fl en
theorem dss_nil : DSs X Wf K n P [] (fun en => .ok .nx en) := ⟨fun _ => tNext, fun _ => pss_nil, fun W S σ H en B fi I Po => Po σ H rfl I⟩
theorem dss_one {f : En → Out Fl} (h : DS X Wf K n P s f) : DSs X Wf K n P [s] f := by
  obtain ⟨t, p, r⟩ := h.ex
  exact ⟨t, fun i => pss_one (p i), r⟩
theorem dss_cons {f g : En → Out Fl} (h : DS X Wf K n P s f) (h2 : DSs X Wf K n P ss g) : DSs X Wf K n P (s :: ss) (seqD f g) := by
  obtain ⟨t, p, r⟩ := h.ex
  obtain ⟨t2, p2, r2⟩ := h2.ex
  refine ⟨fun W => tSeq (t W) (t2 W), fun i => pss_cons (p i) (p2 i), fun W S σ H en B fi I Po => r W S σ H en _ fi I ?_⟩
  unfold seqD at Po
  cases q : f en with
  | ok fl en' =>
    rw [q] at Po
    cases fl with
    | nx => exact fun σ1 H1 l1 J => r2 W S σ1 H1 en' B (fi.to I J l1) J (PoS.len Po l1)
    | bk => exact Po
    | ct => exact Po
    | rt o => exact Po
  | ex C fs en' => rw [q] at Po; exact Po
  | bad => rw [q] at Po; exact Po

/-! ### while -/
def whileD (c : En → Out Bool) (b : En → Out Fl) : Nat → En → Out Fl
  | 0, _ => .bad
  | n + 1, en => (c en).bind fun k en => if k = true then (b en).bind fun fl en => match fl with
      | .nx => whileD c b n en
      | .ct => whileD c b n en
      | .bk => .ok .nx en
      | .rt o => .ok (.rt o) en
    else .ok .nx en
open Classical in
noncomputable def whileL (c : En → Out Bool) (b : En → Out Fl) (en : En) : Out Fl := if h : ∃ n, whileD c b n en ≠ .bad then whileD c b (choose h) en else .bad
theorem whileD_up {c : En → Out Bool} {b : En → Out Fl} : ∀ {n : Nat} {en : En}, whileD c b n en ≠ .bad → whileD c b (n + 1) en = whileD c b n en
  | 0, en, h => absurd rfl h
  | n + 1, en, h => by
    unfold whileD at h
    rw [whileD, whileD]
    cases q : c en with
    | ok k en1 =>
      simp only [q, bind_ok] at h ⊢
      cases k with
      | true =>
        simp only [if_true] at h ⊢
        cases q2 : b en1 with
        | ok fl en2 =>
          simp only [q2, bind_ok] at h ⊢
          cases fl with
          | nx => exact whileD_up h
          | ct => exact whileD_up h
          | bk => rfl
          | rt o => rfl
        | ex C fs en2 => rfl
        | bad => rfl
      | false => rfl
    | ex C fs en2 => rfl
    | bad => rfl
theorem whileD_le {c : En → Out Bool} {b : En → Out Fl} {n : Nat} {en : En} (h : whileD c b n en ≠ .bad) : ∀ k, whileD c b (n + k) en = whileD c b n en
  | 0 => rfl
  | k + 1 => by
    have ih := whileD_le h k
    rw [← ih, ← Nat.add_assoc]
    exact whileD_up (by rw [ih]; exact h)
theorem whileL_of {c : En → Out Bool} {b : En → Out Fl} {en : En} {r : Out Fl} (n : Nat) (h : whileD c b n en = r) (hr : r ≠ .bad) : whileL c b en = r := by
  have hn : whileD c b n en ≠ .bad := by rw [h]; exact hr
  have ex : ∃ n, whileD c b n en ≠ .bad := ⟨n, hn⟩
  unfold whileL
  rw [dif_pos ex]
  have hc := Classical.choose_spec ex
  rcases Nat.le_total n (Classical.choose ex) with l | l
  · obtain ⟨k, e⟩ := Nat.le.dest l
    rw [← e] at hc ⊢
    rw [whileD_le hn k, h]
  · obtain ⟨k, e⟩ := Nat.le.dest l
    have := whileD_le hc k
    rw [e, h] at this
    exact this.symm
theorem ds_while {c : Expr} {body : List Stmt} {f : En → Out Bool} {g : En → Out Fl} (hp : ∀ i, PassesOwn (model (X i).prog (X i).w) (X i).A (X i).env (X i).xe) (hc : DT X Wf K n P c f) (hb : DSs X Wf K n P body g) : DS X Wf K n P (.While c body [] pos) (whileL f g) := by
  obtain ⟨t, p, r⟩ := hc.ex
  obtain ⟨t2, p2, r2⟩ := hb.ex
  refine ⟨fun W => tWhile (t W) (t2 W), fun i => ps_while (hp i) (p i) (p2 i), fun W S σ H en B fi I Po => ?_⟩
  unfold whileL at Po
  split at Po
  · rename_i ex
    generalize Classical.choose ex = n0 at Po
    refine ⟨fun m σ' H' => σ'.length = σ.length ∧ ∃ en', Stt K S σ' H' en' S.tmp ∧ Fine n P S en' ∧ PoS K S W σ' B (whileD f g m en'), ⟨n0, rfl, en, I, fi, Po⟩, ?_⟩
    rintro m σ1 H1 ⟨l1, en1, J, fj, Pj⟩
    cases m with
    | zero => exact Pj.elim
    | succ m =>
      refine r W S σ1 H1 en1 _ fj J ?_
      rw [whileD] at Pj
      cases q : f en1 with
      | ok k en2 =>
        rw [q] at Pj
        intro H2 J2
        have f2 := fj.to J J2 rfl
        cases k with
        | false => exact Pj σ1 H2 rfl J2
        | true =>
          refine ⟨_, fun σ' H' h => ⟨m, Nat.lt_succ_self m, h⟩, r2 W S σ1 H2 en2 _ f2 J2 ?_⟩
          have Pj : PoS K S W σ1 B ((g en2).bind fun fl en => match fl with
            | .nx => whileD f g m en
            | .ct => whileD f g m en
            | .bk => .ok .nx en
            | .rt o => .ok (.rt o) en) := Pj
          cases q2 : g en2 with
          | ok fl en3 =>
            rw [q2] at Pj
            cases fl with
            | nx => exact fun σ3 H3 l3 J3 => ⟨l3.trans l1, en3, J3, f2.to J2 J3 l3, PoS.len Pj l3⟩
            | ct => exact fun σ3 H3 l3 J3 => ⟨l3.trans l1, en3, J3, f2.to J2 J3 l3, PoS.len Pj l3⟩
            | bk => exact Pj
            | rt o => exact Pj
          | ex C fs en3 => rw [q2] at Pj; exact Pj
          | bad => rw [q2] at Pj; exact Pj
      | ex C fs en2 => rw [q] at Pj; exact Pj.x
      | bad => rw [q] at Pj; exact Pj
  · exact Po.elim
end

/-! ### a def -/
def mask : List Bool → En → En
  | [], _ => []
  | b :: M, o :: en => (if b = true then o else none) :: mask M en
  | _ :: M, [] => none :: mask M []
theorem mask_length : ∀ {M : List Bool} {en : En}, (mask M en).length = M.length
  | [], _ => by cases ‹En› <;> rfl
  | b :: M, o :: en => by unfold mask; simp [mask_length]
  | b :: M, [] => by unfold mask; simp [mask_length]
theorem mask_get : ∀ {M : List Bool} {en : En} {j : Nat} {o : O}, (mask M en)[j]? = some (some o) → M[j]? = some true ∧ en[j]? = some (some o)
  | [], en, j, o, h => by cases en <;> simp [mask] at h
  | b :: M, p :: en, 0, o, h => by
    simp [mask] at h
    exact ⟨by simp [h.1], by simp [h.2]⟩
  | b :: M, p :: en, j + 1, o, h => by
    simp only [mask, List.getElem?_cons_succ] at h
    simpa using mask_get h
  | b :: M, [], 0, o, h => by simp [mask] at h
  | b :: M, [], j + 1, o, h => by
    simp only [mask, List.getElem?_cons_succ] at h
    have := (mask_get h).2
    simp at this
/-- what a def's body makes of the arguments' data; M: which parameters keep their object through the body -/
def fnD (B : En → Out Fl) (n : Nat) (M : List Bool) : Fn := fun as => if as.length = M.length then match B (as.map some ++ List.replicate (n - as.length) none) with
    | .ok (.rt o) en => .ok o (mask M en)
    | .ok .nx en => .ok (.val .non) (mask M en)
    | .ex C fs en => .ex C fs (mask M en)
    | _ => .bad
  else .bad
def pinsOf (M : List Bool) (vs : List V) : List (Nat × V) := (List.range vs.length).filterMap fun k => if M.getD k false = true then vs[k]?.map fun v => (k, v) else none
theorem mem_pins {M : List Bool} {vs : List V} {q : Nat × V} : q ∈ pinsOf M vs ↔ M.getD q.1 false = true ∧ vs[q.1]? = some q.2 := by
  unfold pinsOf
  rw [List.mem_filterMap]
  constructor
  · rintro ⟨k, hk, e⟩
    by_cases c : M.getD k false = true
    · rw [if_pos c] at e
      cases q2 : vs[k]? with
      | none => rw [q2] at e; cases e
      | some v => rw [q2] at e; cases e; exact ⟨c, q2⟩
    · rw [if_neg c] at e; cases e
  · rintro ⟨h1, h2⟩
    refine ⟨q.1, List.mem_range.mpr (List.getElem?_eq_some_iff.mp h2).1, ?_⟩
    rw [if_pos h1, h2]; rfl
section
variable {P : Program} {w : World} {K : PySem.W.Frag} {mg : Str → Option Value} {base : Heap}
/-- a def's promise from its body, whatever is behind a call of it -/
theorem okG {CX : CXT} {x qual : Str} {st : Stmt} {f : Addr} {fd : FuncData} {N ps : List Str} {k : Nat} {sp : Sp} (F : Fun K x qual st f fd) (S : FnScope N ps (defScope st)) (len : ∀ vs H Q E, sp vs H Q E → vs.length = ps.length)
    (hbody : ∀ (cdv : Value) (A : Around) (outer : List Env) (s : Shared) (H : Hp) (vs : List V) (Q : VK) (E : XK), Room k (A.deeper (envOfC qual (defScope st) s.heap.objs.size f cdv)) → sp vs H Q E →
      ∃ t, PSs (cxOf CX P w K mg base N qual (defScope st) f cdv A outer s H E) (defBody st) t ∧ t { nx := fun _ H' => Q .non H', rt := Q } (start N vs) H) : FnOk P w K mg base CX (k + 1) f fd ps sp := by
  obtain ⟨_, _, _, _, _, _, c, _, _, e, l, hc⟩ := F.ex
  subst e
  exact fn_of l hc S len fun A outer s H vs Q E hr h => hbody c A outer s H vs Q E hr h
theorem fn_okG {CX : CXT} {x qual : Str} {st : Stmt} {f : Addr} {fd : FuncData} {N ps : List Str} {k : Nat} {B : En → Out Fl} {M : List Bool} (F : Fun K x qual st f fd) (S : FnScope N ps (defScope st)) (hM : M.length = ps.length)
    (body : ∀ (cdv : Value) (A : Around) (outer : List Env) (s : Shared) (H : Hp) (E : XK), Room k (A.deeper (envOfC qual (defScope st) s.heap.objs.size f cdv)) →
      DSs (fun _ : Unit => cxOf CX P w K mg base N qual (defScope st) f cdv A outer s H E) (fun _ cls d _ H => E cls d H) K N.length (fun i => M.getD i false) (defBody st) B) :
    FnOk P w K mg base CX (k + 1) f fd ps (SpD K (fnD B N.length M)) := by
  have lens : ∀ vs H Q E, SpD K (fnD B N.length M) vs H Q E → ∃ (F : Fm) (as : List O), vs.length = as.length ∧ as.length = M.length := fun vs H Q E h => by
    obtain ⟨F, as, _, _, st, h⟩ := h
    refine ⟨F, as, by simpa using st.len, ?_⟩
    unfold fnD at h
    by_cases q : as.length = M.length
    · exact q
    · rw [if_neg q] at h; exact h.elim
  refine okG F S (fun vs H Q E h => ?_) (fun cdv A outer s H vs Q E hr h => ?_)
  · obtain ⟨_, as, l1, l2⟩ := lens vs H Q E h
    rw [l1, l2, hM]
  · obtain ⟨t, p, r⟩ := (body cdv A outer s H E hr).ex
    refine ⟨t (fun cls d _ H => E cls d H), p (), ?_⟩
    obtain ⟨G, as, h0, hp, st0, h⟩ := h
    have l1 : vs.length = as.length := by simpa using st0.len
    unfold fnD at h
    by_cases q : as.length = M.length
    · rw [if_pos q] at h
      have lN : ps.length ≤ N.length := by have := congrArg List.length S.pre; rw [List.length_take] at this; omega
      let G' : Fm := ⟨G.H0, G.O0, G.Av, pinsOf M vs⟩
      have st1 : ER K G' (vs.map some) H (as.map some) [] := ⟨st0.len, (let ⟨fp, f, t⟩ := st0.fit; ⟨fp, ⟨f.rep, f.dj, f.mu⟩, t⟩), st0.st, st0.av, st0.om, fun q hq => by
        have := (mem_pins.mp hq).2
        rw [List.getElem?_map, this]; rfl⟩
      have st2 := st1.pad (N.length - as.length)
      have hs : L2.start N vs = vs.map some ++ List.replicate (N.length - as.length) none := by unfold L2.start; rw [l1]
      let Z : Su := ⟨G', [], [], [], rfl⟩
      refine r (fun cls d _ H => E cls d H) Z (L2.start N vs) H (as.map some ++ List.replicate (N.length - as.length) none) _ ⟨?_, fun q hq => ?_⟩ ?_ ?_
      · show (as.map some ++ List.replicate (N.length - as.length) (none : Option O)).length = N.length
        simp only [List.length_append, List.length_map, List.length_replicate]; omega
      · have z := mem_pins.mp hq
        refine ⟨?_, z.1⟩
        have := (List.getElem?_eq_some_iff.mp z.2).1
        show q.1 < N.length
        omega
      · show ER K G' (start N vs ++ []) H ((as.map some ++ List.replicate (N.length - as.length) none) ++ []) []
        rw [List.append_nil, List.append_nil, hs]
        exact st2
      -- the way out
      · have out : ∀ {σ' : L2.St} {H' : Hp} {en : En} {o : O} {v : V}, σ'.length = (L2.start N vs).length → ER K G' (σ' ++ ([] ++ [some v])) H' (en ++ ([] ++ [some o])) [] → ER K G (vs.map some ++ [some v]) H' (mask M en ++ [some o]) [] := fun {σ' H' en o v} l J => by
          rw [List.nil_append, List.nil_append] at J
          have ll : σ'.length = en.length := by have := J.len; simpa using this
          have lm : (mask M en).length = as.length := by rw [mask_length, q]
          refine ER.sel J rfl rfl rfl (by simp [lm, l1]) (fun j => if j < as.length then j else en.length) (fun j p e => ?_) (fun j k o p e1 e2 e3 => ?_) (fun q hq => by rw [hp] at hq; cases hq)
          · by_cases hj : j < as.length
            · rw [List.getElem?_append_left (by rw [lm]; exact hj)] at e
              obtain ⟨m1, m2⟩ := mask_get e
              have hj2 : j < en.length := (List.getElem?_eq_some_iff.mp m2).1
              have hv : ∃ v, vs[j]? = some v := ⟨_, List.getElem?_eq_getElem (by omega)⟩
              obtain ⟨u, hu⟩ := hv
              have pn := J.pin (j, u) (mem_pins.mpr ⟨by simp [List.getD, m1], hu⟩)
              simp only [if_pos hj]
              refine ⟨by rw [List.getElem?_append_left hj2]; exact m2, ?_⟩
              rw [pn, List.getElem?_append_left (by simp; omega), List.getElem?_map, hu]; rfl
            · have z : j = as.length := by
                have := (List.getElem?_eq_some_iff.mp e).1
                simp [lm] at this; omega
              subst z
              simp only [if_neg hj]
              refine ⟨?_, ?_⟩
              · rw [List.getElem?_append_right (by rw [lm]; exact Nat.le_refl _), lm] at e
                simp at e
                subst e; simp
              · rw [← ll, List.getElem?_append_right (by simp [l1]), List.getElem?_append_right (Nat.le_refl _)]; simp [l1]
          · have bj : ∀ {j : Nat} {o : O}, (mask M en ++ [some o])[j]? = some (some o) ∨ True := fun {j o} => .inr trivial
            by_cases hj : j < as.length <;> by_cases hk : k < as.length
            · simp only [if_pos hj, if_pos hk] at e3; exact e3
            · simp only [if_pos hj, if_neg hk] at e3
              rw [List.getElem?_append_left (by rw [lm]; exact hj)] at e1
              have := (List.getElem?_eq_some_iff.mp (mask_get e1).2).1
              omega
            · simp only [if_neg hj, if_pos hk] at e3
              rw [List.getElem?_append_left (by rw [lm]; exact hk)] at e2
              have := (List.getElem?_eq_some_iff.mp (mask_get e2).2).1
              omega
            · have h1 := (List.getElem?_eq_some_iff.mp e1).1
              have h2 := (List.getElem?_eq_some_iff.mp e2).1
              simp [lm] at h1 h2; omega
        cases qb : B (as.map some ++ List.replicate (N.length - as.length) none) with
        | bad => rw [qb] at h; exact h.elim
        | ok fl en =>
          rw [qb] at h
          cases fl with
          | nx =>
            intro σ' H' l J
            refine h .non H' (by rw [mask_length, q]) (out (o := .val .non) l ?_)
            have J : ER K G' (σ' ++ []) H' (en ++ []) [] := J
            rw [List.append_nil, List.append_nil] at J
            rw [List.nil_append, List.nil_append]
            refine ER.thaw ?_
            obtain ⟨Lv, _, k⟩ := J.opn
            exact k H' _ Grow.refl fun q hq => (List.mem_cons.mp hq).elim (fun z => .inr (by rw [z]; exact rfl)) .inl
          | rt o => exact fun v σ' H' l J => h v H' (by rw [mask_length, q]) (out l J)
          | bk => exact h.elim
          | ct => exact h.elim
        | ex C fs en =>
          rw [qb] at h
          intro σ' dO H' ws l J xa
          refine h dO H' ws (by rw [mask_length, q]) ?_ xa
          have J : ER K G' (σ' ++ []) H' (en ++ []) ((xds fs).zip ws ++ []) := J
          rw [List.append_nil, List.append_nil, List.append_nil] at J
          have ll : σ'.length = en.length := J.len
          have lm : (mask M en).length = as.length := by rw [mask_length, q]
          refine ER.sel J rfl rfl rfl (by simp [lm, l1]) (fun j => j) (fun j p e => ?_) (fun j k o p e1 e2 e3 => e3) (fun q hq => by rw [hp] at hq; cases hq)
          obtain ⟨m1, m2⟩ := mask_get e
          have hj : j < as.length := by rw [← lm]; exact (List.getElem?_eq_some_iff.mp e).1
          obtain ⟨u, hu⟩ : ∃ v, vs[j]? = some v := ⟨_, List.getElem?_eq_getElem (by omega)⟩
          have pn := J.pin (j, u) (mem_pins.mpr ⟨by simp [List.getD, m1], hu⟩)
          exact ⟨m2, by rw [pn, List.getElem?_map, hu]; rfl⟩
    · rw [if_neg q] at h; exact h.elim
theorem fn_ok {x qual : Str} {st : Stmt} {f : Addr} {fd : FuncData} {N ps : List Str} {k : Nat} {B : En → Out Fl} {M : List Bool} (F : Fun K x qual st f fd) (S : FnScope N ps (defScope st)) (hM : M.length = ps.length)
    (body : ∀ (cdv : Value) (A : Around) (outer : List Env) (s : Shared) (H : Hp) (E : XK), Room k (A.deeper (envOfC qual (defScope st) s.heap.objs.size f cdv)) →
      DSs (fun _ : Unit => cxOf (L2.CX P w) P w K mg base N qual (defScope st) f cdv A outer s H E) (fun _ cls d _ H => E cls d H) K N.length (fun i => M.getD i false) (defBody st) B) :
    FnOk P w K mg base (L2.CX P w) (k + 1) f fd ps (SpD K (fnD B N.length M)) := fn_okG F S hM body
end
end Dn
/-! What loops and comprehensions walk; targets; loops; displays; own objects. -/
namespace Dn
open PySem PySem.Spec PyProof.Rows L2

/-- J gives the items ds one by one, as long as wq stands -/
structure WalkD (K : PySem.W.Frag) (J : It) (ds : List D) (wq : List (D × V)) : Prop where
  go : ∀ (i : Nat) (H : Hp) (Lv : Addr → Prop), i < ds.length → (∀ q ∈ wq, Rep K H Lv q.1 q.2) → J.go i H
  stop : ∀ (H : Hp) (Lv : Addr → Prop), (∀ q ∈ wq, Rep K H Lv q.1 q.2) → J.stop ds.length H
  yld : ∀ (i : Nat) (H : Hp) (Lv : Addr → Prop) (x : V) (H' : Hp) (d : D), ds[i]? = some d → (∀ a, Lv a → Mut (H a)) → (∀ q ∈ wq, Rep K H Lv q.1 q.2) → J.yld i H x H' → Grow H H' ∧ Rep K H' Lv d x
def PoI (K : PySem.W.Frag) (S : Su) (W : WX) (σ : L2.St) (R : It → Hp → Prop) : Out (List D) → Prop
  | .ok ds en => ∀ J H tmp wq, (∀ q ∈ S.tmp, q ∈ tmp) → (∀ q ∈ wq, q ∈ tmp) → Stt K S σ H en tmp → WalkD K J ds wq → ds.length ≤ sizeLine → R J H
  | .ex C fs en => PoX K S W σ C fs en
  | .bad => False
section
variable {ι : Type} (X : ι → Cx) (Wf : ι → WX) (K : PySem.W.Frag) (n : Nat) (P : Nat → Bool)
structure DI (tg e : Expr) (f : En → Out (List D)) : Prop where
  ex : ∃ t : WX → TI, (∀ i, PI (X i) tg e (t (Wf i))) ∧ ∀ (W : WX) (S : Su) σ H en R, Fine n P S en → Stt K S σ H en S.tmp → PoI K S W σ R (f en) → t W σ H R
/-- a target: what storing d there makes of the slots -/
structure DG (tg : Expr) (sl : List Nat) (a : D → En → Option En) : Prop where
  ex : ∃ g, (∀ i, PG (X i) tg g) ∧ ∀ (S : Su) σ H en d x Q, Fine n P S en → Stt K S σ H en ((d, x) :: S.tmp) →
    (match a d en with | none => False | some en' => ∀ σ' H', σ'.length = σ.length → (∀ j, j ∉ sl → σ'[j]? = σ[j]?) → Stt K S σ' H' en' S.tmp → Q σ' H') → g x σ H Q
structure DGs (tgs : List Expr) (sl : List Nat) (a : List D → En → Option En) : Prop where
  ex : ∃ g, (∀ i, PGs (X i) tgs g) ∧ ∀ (S : Su) σ H en ds xs Q, Fine n P S en → xs.length = ds.length → Stt K S σ H en (ds.zip xs ++ S.tmp) →
    (match a ds en with | none => False | some en' => ∀ σ' H', σ'.length = σ.length → (∀ j, j ∉ sl → σ'[j]? = σ[j]?) → Stt K S σ' H' en' S.tmp → Q σ' H') → g xs σ H Q
end

section
variable {ι : Type} {X : ι → Cx} {Wf : ι → WX} {K : PySem.W.Frag} {n : Nat} {P : Nat → Bool} {s : Stmt} {ss : List Stmt} {e a b tg : Expr} {es : List Expr} {pos : Pos}

/-! ### targets -/
def asgN (i : Nat) : D → En → Option En := fun d en => some (en.set i (some (.val d)))
theorem dg_name {i : Nat} (hi : i < n) (hP : P i = false) (p : ∀ k, PG (X k) tg (gName i)) : DG X K n P tg [i] (asgN i) := by
  refine ⟨_, p, fun S σ H en d x Q fi I Po => ?_⟩
  have l : i < σ.length := by rw [Stt.len I, fi.len]; exact hi
  have l' : i < en.length := by rw [← Stt.len I]; exact l
  refine Po (σ.set i (some x)) H (by simp) (fun j hj => List.getElem?_set_ne (fun z => hj (by simp [z]))) ?_
  have := ER.set (i := i) I (pinNe fi hP)
  rw [List.set_append_left _ _ l, List.set_append_left _ _ l'] at this
  exact this
def asgNil : List D → En → Option En
  | [], en => some en
  | _ :: _, _ => none
def asgCons (a : D → En → Option En) (r : List D → En → Option En) : List D → En → Option En
  | [], _ => none
  | d :: ds, en => (a d en).bind (r ds)
theorem dgs_nil : DGs X K n P [] [] asgNil := by
  refine ⟨_, fun _ => pgs_nil, fun S σ H en ds xs Q fi l I Po => ?_⟩
  cases ds with
  | nil =>
    have e : xs = [] := List.length_eq_zero_iff.mp l
    subst e
    exact ⟨rfl, Po σ H rfl (fun _ _ => rfl) I⟩
  | cons d ds => exact Po.elim
theorem dgs_cons {f : D → En → Option En} {g : List D → En → Option En} {s1 s2 : List Nat} (h : DG X K n P e s1 f) (hs : DGs X K n P es s2 g)
    (hq : ∀ i, (assignEach (e :: es) (X i).env).map (·.2) = assign e (X i).env :: (assignEach es (X i).env).map (·.2) := by intro _; rfl) : DGs X K n P (e :: es) (s1 ++ s2) (asgCons f g) := by
  obtain ⟨t, p, r⟩ := h.ex
  obtain ⟨t2, p2, r2⟩ := hs.ex
  refine ⟨_, fun i => pgs_cons (p i) (p2 i) (hq i), fun S σ H en ds xs Q fi l I Po => ?_⟩
  cases ds with
  | nil => exact Po.elim
  | cons d ds =>
    cases xs with
    | nil => cases l
    | cons x xs =>
      refine ⟨x, xs, rfl, r (S.w (ds.zip xs ++ S.tmp)) σ H en d x _ (fi.w _) I ?_⟩
      cases q : f d en with
      | none =>
        have Po : (match (f d en).bind (g ds) with | none => False | some en' => _) := Po
        rw [q] at Po; exact Po.elim
      | some en1 =>
        intro σ1 H1 l1 ne1 J
        have J' : Stt K S σ1 H1 en1 (ds.zip xs ++ S.tmp) := J
        refine r2 S σ1 H1 en1 ds xs Q (fi.to I J' l1) (by simpa using l) J' ?_
        have Po : (match (f d en).bind (g ds) with | none => False | some en' => ∀ σ' H', σ'.length = σ.length → (∀ j, j ∉ s1 ++ s2 → σ'[j]? = σ[j]?) → Stt K S σ' H' en' S.tmp → Q σ' H') := Po
        rw [q] at Po
        have Po : (match g ds en1 with | none => False | some en' => ∀ σ' H', σ'.length = σ.length → (∀ j, j ∉ s1 ++ s2 → σ'[j]? = σ[j]?) → Stt K S σ' H' en' S.tmp → Q σ' H') := Po
        cases q2 : g ds en1 with
        | none => rw [q2] at Po; exact Po
        | some en2 => rw [q2] at Po; exact fun σ' H' l' ne' => Po σ' H' (l'.trans l1) fun j hj => (ne' j fun z => hj (List.mem_append_right _ z)).trans (ne1 j fun z => hj (List.mem_append_left _ z))
def asgT (m : Nat) (r : List D → En → Option En) : D → En → Option En
  | .tup ds, en => if ds.length = m then r ds en else none
  | _, _ => none
theorem RepL.zipmem {H : Hp} {Lv : Addr → Prop} : ∀ {ds : List D} {vs : List V}, RepL K H Lv ds vs → ∀ q ∈ ds.zip vs, Rep K H Lv q.1 q.2
  | [], _, _, q, h => by simp at h
  | d :: ds, _, ⟨v, ws, e, r, hs⟩, q, h => by
    subst e
    rcases List.mem_cons.mp h with rfl | h
    · exact r
    · exact hs.zipmem q h
theorem dg_tup {m : Nat} {g : List D → En → Option En} {kk : Nat} {sl : List Nat} (hc : ∀ i, (X i).calm = true) (hK : ∀ i, (X i).K = K) (h : DGs X K n P es sl g) (hn : ∀ i, (assignEach es (X i).env).length = m := by intro _; rfl)
    (hst : ∀ i, (assignEach es (X i).env).findIdx? (·.1) = none := by intro _; rfl) : DG X K n P (.Tuple es kk pos) sl (asgT m g) := by
  obtain ⟨t, p, r⟩ := h.ex
  refine ⟨gTup K m t, fun i => by have := pg_tup (pos := pos) (k := kk) (hc i) (p i) (hn i) (hst i); rw [hK i] at this; exact this, fun S σ H en d x Q fi I Po => ?_⟩
  cases d with
  | tup ds =>
    have Po : (match (if ds.length = m then g ds en else none) with | none => False | some en' => ∀ σ' H', σ'.length = σ.length → (∀ j, j ∉ sl → σ'[j]? = σ[j]?) → Stt K S σ' H' en' S.tmp → Q σ' H') := Po
    by_cases q : ds.length = m
    · rw [if_pos q] at Po
      obtain ⟨Lv, op, k⟩ := ER.opn I
      obtain ⟨ad, vs, e, sq, _, hs⟩ := op.tm _ List.mem_cons_self
      refine ⟨ad, vs, e, .inl (.inl sq), by rw [hs.length, q], r S σ H en ds vs Q fi hs.length ?_ Po⟩
      exact k H _ Grow.refl fun q hq => (List.mem_append.mp hq).elim (fun z => .inr (hs.zipmem q z)) fun z => .inl (List.mem_cons_of_mem _ z)
    · rw [if_neg q] at Po; exact Po.elim
  | _ => exact Po.elim

/-! ### walks -/
def seqItems : D → En → Out (List D)
  | .lst ds, en => .ok ds en
  | .sc ns, en => .ok (ns.map .int) en
  | _, _ => .bad
theorem di_list {f : En → Out D} (hK : ∀ i, (X i).K = K) (h : DE X Wf K n P e f) : DI X Wf K n P tg e (fun en => (f en).bind seqItems) := by
  obtain ⟨t, p, r⟩ := h.ex
  refine ⟨fun W => iList K (t W), fun i => by have := pi_list (tg := tg) (p i); rw [hK i] at this; exact this, fun W S σ H en R fi I Po => r W S σ H en _ fi I ?_⟩
  cases q : f en with
  | ok d en1 =>
    rw [q] at Po
    intro v H1 J
    obtain ⟨Lv, op, k⟩ := ER.opn J
    have rd := op.tm _ List.mem_cons_self
    cases d with
    | lst ds =>
      obtain ⟨ad, vs, e, _, hl, hz, hs⟩ := rd
      refine ⟨ad, e, ⟨vs, .inl (.inl hl)⟩, Po _ H1 _ [(.lst ds, v)] (fun q h => List.mem_cons_of_mem _ h) (fun q h => by rw [List.mem_singleton.mp h]; exact List.mem_cons_self) J ⟨fun i H' Lv' hi hw => ?_, fun H' Lv' hw => ?_, fun i H' Lv' x H2 d hd _ hw y => ?_⟩ hz⟩
      · obtain ⟨ad', vs', e', _, hl', _, hs'⟩ := hw _ List.mem_cons_self
        rw [show v = V.ref ad from e] at e'; cases e'
        obtain ⟨x, hx, _⟩ := hs'.get (List.getElem?_eq_getElem hi)
        exact ⟨vs', x, .inl (.inl hl'), hx⟩
      · obtain ⟨ad', vs', e', _, hl', _, hs'⟩ := hw _ List.mem_cons_self
        rw [show v = V.ref ad from e] at e'; cases e'
        exact ⟨vs', .inl (.inl hl'), by rw [hs'.length]; exact Nat.le_refl _⟩
      · obtain ⟨ad', vs', e', _, hl', _, hs'⟩ := hw _ List.mem_cons_self
        rw [show v = V.ref ad from e] at e'; cases e'
        obtain ⟨e1, y⟩ := y
        subst e1
        obtain ⟨x', hx, rx⟩ := hs'.get hd
        have := (y vs' (.inl (.inl hl'))).symm.trans hx
        cases this
        exact ⟨Grow.refl, rx⟩
    | sc ns =>
      obtain ⟨ad, e, hl, hz⟩ := rd
      refine ⟨ad, e, ⟨_, hl.sql⟩, Po _ H1 _ [(.sc ns, v)] (fun q h => List.mem_cons_of_mem _ h) (fun q h => by rw [List.mem_singleton.mp h]; exact List.mem_cons_self) J ⟨fun i H' Lv' hi hw => ?_, fun H' Lv' hw => ?_, fun i H' Lv' x H2 d hd _ hw y => ?_⟩ (by simpa using hz)⟩
      · obtain ⟨ad', e', hl', _⟩ := hw _ List.mem_cons_self
        rw [show v = V.ref ad from e] at e'; cases e'
        have hi' : i < ns.length := by simpa using hi
        exact ⟨_, .int ns[i], hl'.sql, by simp [hi']⟩
      · obtain ⟨ad', e', hl', _⟩ := hw _ List.mem_cons_self
        rw [show v = V.ref ad from e] at e'; cases e'
        exact ⟨_, hl'.sql, by simp⟩
      · obtain ⟨ad', e', hl', _⟩ := hw _ List.mem_cons_self
        rw [show v = V.ref ad from e] at e'; cases e'
        obtain ⟨e1, y⟩ := y
        subst e1
        have := y _ hl'.sql
        rw [List.getElem?_map] at this hd
        cases z : ns[i]? with
        | none => rw [z] at hd; cases hd
        | some m => rw [z] at hd this; cases hd; cases this; exact ⟨Grow.refl, rfl⟩
    | _ => exact Po.elim
  | ex C fs en' => rw [q] at Po; exact Po
  | bad => rw [q] at Po; exact Po
def tupItems : D → En → Out (List D)
  | .tup ds, en => .ok ds en
  | _, _ => .bad
theorem di_tup {f : En → Out D} (hK : ∀ i, (X i).K = K) (h : DE X Wf K n P e f) : DI X Wf K n P tg e (fun en => (f en).bind tupItems) := by
  obtain ⟨t, p, r⟩ := h.ex
  refine ⟨fun W => iTup K (t W), fun i => by have := pi_tup (tg := tg) (p i); rw [hK i] at this; exact this, fun W S σ H en R fi I Po => r W S σ H en _ fi I ?_⟩
  cases q : f en with
  | ok d en1 =>
    rw [q] at Po
    intro v H1 J
    obtain ⟨Lv, op, k⟩ := ER.opn J
    have rd := op.tm _ List.mem_cons_self
    cases d with
    | tup ds =>
      obtain ⟨ad, vs, e, hl, hz, hs⟩ := rd
      refine ⟨ad, e, ⟨vs, .inl (.inl hl)⟩, Po _ H1 _ [(.tup ds, v)] (fun q h => List.mem_cons_of_mem _ h) (fun q h => by rw [List.mem_singleton.mp h]; exact List.mem_cons_self) J ⟨fun i H' Lv' hi hw => ?_, fun H' Lv' hw => ?_, fun i H' Lv' x H2 d hd _ hw y => ?_⟩ hz⟩
      · obtain ⟨ad', vs', e', hl', _, hs'⟩ := hw _ List.mem_cons_self
        rw [show v = V.ref ad from e] at e'; cases e'
        obtain ⟨x, hx, _⟩ := hs'.get (List.getElem?_eq_getElem hi)
        exact ⟨vs', x, .inl (.inl hl'), hx⟩
      · obtain ⟨ad', vs', e', hl', _, hs'⟩ := hw _ List.mem_cons_self
        rw [show v = V.ref ad from e] at e'; cases e'
        exact ⟨vs', .inl (.inl hl'), by rw [hs'.length]; exact Nat.le_refl _⟩
      · obtain ⟨ad', vs', e', hl', _, hs'⟩ := hw _ List.mem_cons_self
        rw [show v = V.ref ad from e] at e'; cases e'
        obtain ⟨e1, y⟩ := y
        subst e1
        obtain ⟨x', hx, rx⟩ := hs'.get hd
        have := (y vs' (.inl (.inl hl'))).symm.trans hx
        cases this
        exact ⟨Grow.refl, rx⟩
    | _ => exact Po.elim
  | ex C fs en' => rw [q] at Po; exact Po
  | bad => rw [q] at Po; exact Po
/-- the intsD from lo on, below hi -/
def intsD (lo hi : Int) : List D := (List.range (hi - lo).toNat).map fun (i : Nat) => D.int (lo + (i : Int))
theorem intsD_length {lo hi : Int} : (intsD lo hi).length = (hi - lo).toNat := by simp [intsD]
theorem walk_ints (lo hi : Int) : WalkD K (Itr lo (hi - lo).toNat) (intsD lo hi) [] :=
  ⟨fun i H Lv hi' _ => by rw [intsD_length] at hi'; exact hi', fun H Lv _ => by rw [intsD_length]; exact Nat.le_refl _, fun i H Lv x H' d hd _ _ y => by
    obtain ⟨e1, e2⟩ := y
    subst e1; subst e2
    unfold intsD at hd
    rw [List.getElem?_map] at hd
    cases q : (List.range (hi - lo).toNat)[i]? with
    | none => rw [q] at hd; cases hd
    | some k =>
      rw [q] at hd
      have hk : k = i := by
        rw [List.getElem?_range (by have := (List.getElem?_eq_some_iff.mp q).1; simpa using this)] at q
        exact (Option.some.inj q).symm
      subst hk
      cases hd
      exact ⟨Grow.refl, rfl⟩⟩
def oneI : List D → Option Int
  | [.int j] => some j
  | _ => none
theorem oneI_eq {ds : List D} {j : Int} (h : oneI ds = some j) : ds = [.int j] := by
  unfold oneI at h
  split at h
  · cases h; rfl
  · cases h
def twoI : List D → Option (Int × Int)
  | [.int i, .int j] => some (i, j)
  | _ => none
theorem twoI_eq {ds : List D} {i j : Int} (h : twoI ds = some (i, j)) : ds = [.int i, .int j] := by
  unfold twoI at h
  split at h
  · cases h; rfl
  · cases h
def rng1 (ds : List D) (en : En) : Out (List D) := match oneI ds with
  | some j => if j ≤ 16777216 ∧ -(2 ^ 62) ≤ j then .ok (intsD 0 j) en else .bad
  | none => .bad
def rng2 (ds : List D) (en : En) : Out (List D) := match twoI ds with
  | some (i, j) => if (-(2 ^ 62) ≤ i ∧ i < 2 ^ 62 ∧ -(2 ^ 62) ≤ j ∧ j < 2 ^ 62) ∧ j - i ≤ 16777216 then .ok (intsD i j) en else .bad
  | none => .bad
def rngD (g : List D → En → Out (List D)) (f : En → Out (List AR)) : En → Out (List D) := fun en => (f en).bind fun as en => match viewAs en as with
  | some ds => g ds en
  | none => .bad
theorem di_range1 {f : En → Out (List AR)} {p2 : Pos} (hg : ∀ i, Gl (X i) "range") (hm : ∀ i, (X i).mg "range" = none) (h : DAs X Wf K n P [a] f) (hs : ∀ i, starEach [a] (X i).env = [(false, eval a (X i).env)] := by intro _; rfl) :
    DI X Wf K n P tg (.Call (.Name "range" p2) [a] [] pos) (rngD rng1 f) := by
  obtain ⟨t, p, r⟩ := h.ex
  refine ⟨fun W => iRng1 (t W), fun i => pi_range1 (hg i) (hm i) (p i) (hs i), fun W S σ H en R fi I Po => r W S σ H en _ fi I ?_⟩
  unfold rngD at Po
  cases q : f en with
  | ok as en1 =>
    rw [q] at Po
    intro vs H1 tmp1 s1 J h1
    have Po : PoI K S W σ R (match viewAs en1 as with | some ds => rng1 ds en1 | none => .bad) := Po
    cases qv : viewAs en1 as with
    | none => rw [qv] at Po; exact Po.elim
    | some ds =>
      rw [qv] at Po
      obtain ⟨Lv, op, k⟩ := ER.opn J
      have rs := op.args h1 qv
      have Po : PoI K S W σ R (rng1 ds en1) := Po
      unfold rng1 at Po
      cases qi : oneI ds with
      | none => rw [qi] at Po; exact Po.elim
      | some j =>
        rw [qi] at Po
        have := oneI_eq qi
        subst this
        obtain ⟨v, ws, e, rv, rw'⟩ := rs
        have e2 : ws = [] := rw'
        have e3 : v = .int j := rv
        subst e2; subst e3
        have Po : PoI K S W σ R (if j ≤ 16777216 ∧ -(2 ^ 62) ≤ j then .ok (intsD 0 j) en1 else .bad) := Po
        by_cases hj : j ≤ 16777216 ∧ -(2 ^ 62) ≤ j
        · rw [if_pos hj] at Po
          refine ⟨j, e, hj.2, by omega, ?_⟩
          have w := walk_ints (K := K) 0 j
          rw [Int.sub_zero] at w
          refine Po _ H1 tmp1 [] s1 (fun q h => by cases h) J w ?_
          rw [intsD_length, sizeLine_eq]; omega
        · rw [if_neg hj] at Po; exact Po.elim
  | ex C fs en' => rw [q] at Po; exact Po
  | bad => rw [q] at Po; exact Po
theorem di_range2 {f : En → Out (List AR)} {p2 : Pos} (hg : ∀ i, Gl (X i) "range") (hm : ∀ i, (X i).mg "range" = none) (h : DAs X Wf K n P [a, b] f)
    (hs : ∀ i, starEach [a, b] (X i).env = [(false, eval a (X i).env), (false, eval b (X i).env)] := by intro _; rfl) (hs2 : ∀ i, starEach [b] (X i).env = [(false, eval b (X i).env)] := by intro _; rfl) :
    DI X Wf K n P tg (.Call (.Name "range" p2) [a, b] [] pos) (rngD rng2 f) := by
  obtain ⟨t, p, r⟩ := h.ex
  refine ⟨fun W => iRng2 (t W), fun i => pi_range2 (hg i) (hm i) (p i) (hs i) (hs2 i), fun W S σ H en R fi I Po => r W S σ H en _ fi I ?_⟩
  unfold rngD at Po
  cases q : f en with
  | ok as en1 =>
    rw [q] at Po
    intro vs H1 tmp1 s1 J h1
    have Po : PoI K S W σ R (match viewAs en1 as with | some ds => rng2 ds en1 | none => .bad) := Po
    cases qv : viewAs en1 as with
    | none => rw [qv] at Po; exact Po.elim
    | some ds =>
      rw [qv] at Po
      obtain ⟨Lv, op, k⟩ := ER.opn J
      have rs := op.args h1 qv
      have Po : PoI K S W σ R (rng2 ds en1) := Po
      unfold rng2 at Po
      cases qi : twoI ds with
      | none => rw [qi] at Po; exact Po.elim
      | some ij =>
        obtain ⟨i, j⟩ := ij
        rw [qi] at Po
        have := twoI_eq qi
        subst this
        obtain ⟨v, ws, e, rv, v2, ws2, e4, rv2, rw'⟩ := rs
        have e2 : ws2 = [] := rw'
        have e3 : v = .int i := rv
        have e5 : v2 = .int j := rv2
        subst e4; subst e2; subst e3; subst e5
        have Po : PoI K S W σ R (if (-(2 ^ 62) ≤ i ∧ i < 2 ^ 62 ∧ -(2 ^ 62) ≤ j ∧ j < 2 ^ 62) ∧ j - i ≤ 16777216 then .ok (intsD i j) en1 else .bad) := Po
        by_cases hj : (-(2 ^ 62) ≤ i ∧ i < 2 ^ 62 ∧ -(2 ^ 62) ≤ j ∧ j < 2 ^ 62) ∧ j - i ≤ 16777216
        · rw [if_pos hj] at Po
          refine ⟨i, j, e, hj.1, Po _ H1 tmp1 [] s1 (fun q h => by cases h) J (walk_ints i j) ?_⟩
          rw [intsD_length, sizeLine_eq]; omega
        · rw [if_neg hj] at Po; exact Po.elim
  | ex C fs en' => rw [q] at Po; exact Po
  | bad => rw [q] at Po; exact Po

/-! ### for -/
def forD (asg : D → En → Option En) (g : En → Out Fl) : List D → En → Out Fl
  | [], en => .ok .nx en
  | d :: ds, en => match asg d en with
    | none => .bad
    | some en1 => (g en1).bind fun fl en => match fl with
      | .nx => forD asg g ds en
      | .ct => forD asg g ds en
      | .bk => .ok .nx en
      | .rt o => .ok (.rt o) en
theorem PoS.w {W : WX} {K : PySem.W.Frag} {S : Su} {σ : L2.St} {B : Ends} {o : Out Fl} {tmp : List (D × V)} (h : PoS K S W σ B o) (s : ∀ q ∈ S.tmp, q ∈ tmp) : PoS K (S.w tmp) W σ B o := by
  cases o with
  | ok fl en =>
    cases fl with
    | nx => exact fun σ2 H l2 J => h σ2 H l2 (ER.sub J s)
    | bk => exact fun σ2 H l2 J => h σ2 H l2 (ER.sub J s)
    | ct => exact fun σ2 H l2 J => h σ2 H l2 (ER.sub J s)
    | rt o => exact fun v σ2 H l2 J => h v σ2 H l2 (ER.sub J s)
  | ex C fs en => exact fun σ2 dO H ws l2 J => h σ2 dO H ws l2 (ER.sub J fun q hq => (List.mem_append.mp hq).elim (fun z => List.mem_append_left _ z) fun z => List.mem_append_right _ (s q z))
  | bad => exact h
def forS (asg : D → En → Option En) (fi : En → Out (List D)) (g : En → Out Fl) : En → Out Fl := fun en => (fi en).bind fun ds en => forD asg g ds en
theorem ds_for {sl : List Nat} {body : List Stmt} {asg : D → En → Option En} {it : En → Out (List D)} {g : En → Out Fl} (hp : ∀ i, PassesOwn (model (X i).prog (X i).w) (X i).A (X i).env (X i).xe) (hc : ∀ i, (X i).calm = true)
    (hi : DI X Wf K n P tg e it) (hg : DG X K n P tg sl asg) (hb : DSs X Wf K n P body g) (hs : ∀ i x, foldedSetIterable e (X i).env x = pure x := by intro _ _; rfl) : DS X Wf K n P (.For tg e body [] pos) (forS asg it g) := by
  obtain ⟨t, p, r⟩ := hi.ex
  obtain ⟨t1, p1, r1⟩ := hg.ex
  obtain ⟨t2, p2, r2⟩ := hb.ex
  refine ⟨fun W => tFor (t W) t1 (t2 W), fun i => ps_for (hp i) (hc i) (p i) (p1 i) (p2 i) (hs i), fun W S σ H en B fi I Po => r W S σ H en _ fi I ?_⟩
  unfold forS at Po
  cases q : it en with
  | ok ds en1 =>
    rw [q] at Po
    intro J H1 tmp1 wq s1 sw I1 wk _
    have Po : PoS K (S.w tmp1) W σ B (forD asg g ds en1) := PoS.w Po s1
    refine ⟨fun i m σ' H' => m = ds.length - i ∧ i ≤ ds.length ∧ σ'.length = σ.length ∧ ∃ en', Stt K (S.w tmp1) σ' H' en' tmp1 ∧ Fine n P (S.w tmp1) en' ∧ PoS K (S.w tmp1) W σ' B (forD asg g (ds.drop i) en'), ⟨ds.length, by simp, Nat.zero_le _, rfl, en1, I1, (fi.to I I1 rfl).w _, Po⟩, ?_⟩
    rintro i m σ' H' ⟨rfl, hi', l', en', J', fj, Pj⟩
    obtain ⟨Lv, op, k⟩ := ER.opn J'
    have hw : ∀ q ∈ wq, Rep K H' Lv q.1 q.2 := fun q hq => op.tm q (sw q hq)
    by_cases hlt : i < ds.length
    · refine .inr ⟨wk.go i H' Lv hlt hw, fun σ2 H2 => i + 1 ≤ ds.length ∧ σ2.length = σ.length ∧ ∃ en2, Stt K (S.w tmp1) σ2 H2 en2 tmp1 ∧ Fine n P (S.w tmp1) en2 ∧ PoS K (S.w tmp1) W σ2 B (forD asg g (ds.drop (i + 1)) en2),
        fun σ2 H2 h => ⟨_, by omega, rfl, h⟩, fun x H2 y => ?_⟩
      obtain ⟨gr, rx⟩ := wk.yld i H' Lv x H2 ds[i] (List.getElem?_eq_getElem hlt) op.mu hw y
      rw [List.drop_eq_getElem_cons hlt, forD] at Pj
      have J2 : Stt K (S.w tmp1) σ' H2 en' ((ds[i], x) :: tmp1) := k H2 _ gr fun q hq => (List.mem_cons.mp hq).elim (fun z => .inr (by rw [z]; exact rx)) .inl
      refine r1 (S.w tmp1) σ' H2 en' ds[i] x _ fj J2 ?_
      cases qa : asg ds[i] en' with
      | none => rw [qa] at Pj; exact Pj.elim
      | some en2 =>
        rw [qa] at Pj
        intro σ3 H3 l3 _ J3
        have f3 := fj.to J' J3 l3
        refine r2 W (S.w tmp1) σ3 H3 en2 _ f3 J3 ?_
        have Pj : PoS K (S.w tmp1) W σ' B ((g en2).bind fun fl en => match fl with
          | .nx => forD asg g (ds.drop (i + 1)) en
          | .ct => forD asg g (ds.drop (i + 1)) en
          | .bk => .ok .nx en
          | .rt o => .ok (.rt o) en) := Pj
        cases q2 : g en2 with
        | ok fl en3 =>
          rw [q2] at Pj
          cases fl with
          | nx => exact fun σ4 H4 l4 J4 => ⟨hlt, l4.trans (l3.trans l'), en3, J4, f3.to J3 J4 l4, PoS.len Pj (l4.trans l3)⟩
          | ct => exact fun σ4 H4 l4 J4 => ⟨hlt, l4.trans (l3.trans l'), en3, J4, f3.to J3 J4 l4, PoS.len Pj (l4.trans l3)⟩
          | bk => exact fun σ4 H4 l4 J4 => Pj σ4 H4 (l4.trans l3) J4
          | rt o => exact fun v σ4 H4 l4 J4 => Pj v σ4 H4 (l4.trans l3) J4
        | ex C fs en3 => rw [q2] at Pj; exact PoS.len Pj l3
        | bad => rw [q2] at Pj; exact Pj
    · have hz : i = ds.length := by omega
      subst hz
      rw [List.drop_length] at Pj
      exact .inl ⟨wk.stop H' Lv hw, Pj σ' H' rfl J'⟩
  | ex C fs en' => rw [q] at Po; exact Po.x
  | bad => rw [q] at Po; exact Po

/-! ### displays -/
def tupF (f : En → Out (List AR)) : En → Out D := fun en => (f en).bind fun as en => match frzAs en as with
  | some ds => if ds.length ≤ 1000 then .ok (.tup ds) en else .bad
  | none => .bad
def lstF (f : En → Out (List AR)) : En → Out O := fun en => (f en).bind fun as en => match frzAs en as with
  | some ds => if ds.length ≤ 1000 then .ok (.fl (.lst ds)) en else .bad
  | none => .bad
theorem le1000 {k : Nat} (h : k ≤ 1000) : k ≤ sizeLine := by rw [sizeLine_eq]; omega
theorem de_tup {kk : Nat} {f : En → Out (List AR)} (h : DAs X Wf K n P es f) : DE X Wf K n P (.Tuple es kk pos) (tupF f) := by
  obtain ⟨t, p, r⟩ := h.ex
  refine ⟨fun W => tTup (t W), fun i => pe_tup (p i), fun W S σ H en Q fi I Po => r W S σ H en _ fi I ?_⟩
  unfold tupF at Po
  cases q : f en with
  | ok as en1 =>
    rw [q] at Po
    intro vs H1 tmp1 s1 J h1
    have Po : PoE K S W σ Q (match frzAs en1 as with | some ds => if ds.length ≤ 1000 then .ok (.tup ds) en1 else .bad | none => .bad) := Po
    cases qv : frzAs en1 as with
    | none => rw [qv] at Po; exact Po.elim
    | some ds =>
      rw [qv] at Po
      obtain ⟨Lv, op, k⟩ := ER.opn J
      have rs := op.argsF h1 qv
      have Po : PoE K S W σ Q (if ds.length ≤ 1000 then .ok (.tup ds) en1 else .bad) := Po
      by_cases hl : ds.length ≤ 1000
      · rw [if_pos hl] at Po
        refine ⟨by rw [rs.length]; exact le1000 hl, fun p hp => Po (.ref p) _ ?_⟩
        exact ER.add k (Grow.upd hp) (c := .tup ds) ⟨p, vs, rfl, upd_same, le1000 hl, rs.mono (Grow.upd hp).keep⟩ s1
      · rw [if_neg hl] at Po; exact Po.elim
  | ex C fs en' => rw [q] at Po; exact Po
  | bad => rw [q] at Po; exact Po
theorem df_lst {f : En → Out (List AR)} (h : DAs X Wf K n P es f) : DF X Wf K n P (.List es pos) (lstF f) := by
  obtain ⟨t, p, r⟩ := h.ex
  refine ⟨fun W => tLst (t W), fun i => pe_lst (p i), fun W S σ H en Q fi I Po => r W S σ H en _ fi I ?_⟩
  unfold lstF at Po
  cases q : f en with
  | ok as en1 =>
    rw [q] at Po
    intro vs H1 tmp1 s1 J h1
    have Po : PoF K S W σ Q (match frzAs en1 as with | some ds => if ds.length ≤ 1000 then .ok (.fl (.lst ds)) en1 else .bad | none => .bad) := Po
    cases qv : frzAs en1 as with
    | none => rw [qv] at Po; exact Po.elim
    | some ds =>
      rw [qv] at Po
      have Po : PoF K S W σ Q (if ds.length ≤ 1000 then .ok (.fl (.lst ds)) en1 else .bad) := Po
      by_cases hl : ds.length ≤ 1000
      · rw [if_pos hl] at Po
        obtain ⟨fp, ft, tm⟩ := ER.fit J
        have rs := (ft.opn J tm).argsF h1 qv
        refine ⟨by rw [rs.length]; exact le1000 hl, fun p hp => Po (.ref p) _ ?_⟩
        have N := ER.newOf J ft tm (u := .lst vs) (d := .lst ds) hp ⟨le1000 hl, rs⟩
        rw [List.append_assoc, List.append_assoc] at N
        exact N.sub s1
      · rw [if_neg hl] at Po; exact Po.elim
  | ex C fs en' => rw [q] at Po; exact Po
  | bad => rw [q] at Po; exact Po
/-- a slot's own object, settled by being used for ever -/
def setl (i : Nat) : En → Out D := fun en => match en[i]? with
  | some (some (.fl d)) => .ok d (en.set i (some (.val d)))
  | some (some (.val d)) => .ok d en
  | _ => .bad
theorem de_settle {j : Nat} (p : ∀ i, PE (X i) e (tVar j)) : DE X Wf K n P e (setl j) := by
  refine ⟨fun _ => tVar j, p, fun W S σ H en Q fi I Po => ?_⟩
  unfold setl at Po
  split at Po
  · rename_i d q
    obtain ⟨v, e, J⟩ := ER.settle I (getE q)
    have hj : j < en.length := (List.getElem?_eq_some_iff.mp q).1
    have hi : j < σ.length := by rw [Stt.len I]; exact hj
    rw [List.getElem?_append_left hi] at e
    rw [List.set_append_left _ _ hj] at J
    exact ⟨v, e, Po v H J⟩
  · rename_i d q
    obtain ⟨Lv, op, k⟩ := ER.opn I
    obtain ⟨v, e, r⟩ := op.sv j d (getE q)
    have hi : j < σ.length := by rw [Stt.len I]; exact (List.getElem?_eq_some_iff.mp q).1
    rw [List.getElem?_append_left hi] at e
    exact ⟨v, e, Po v H (k H _ Grow.refl fun q hq => (List.mem_cons.mp hq).elim (fun z => .inr (by rw [z]; exact r)) .inl)⟩
  · exact Po.elim
end
end Dn
/-! Comprehensions, changes of own objects, attributes. -/
namespace Dn
open PySem PySem.Spec PyProof.Rows L2

/-! ### comprehensions -/
def wipeE (en : En) : List Nat → En
  | [] => en
  | v :: vs => (wipeE en vs).set v none
theorem wipeE_length {en : En} : ∀ {vs : List Nat}, (wipeE en vs).length = en.length
  | [] => rfl
  | v :: vs => by unfold wipeE; rw [List.length_set, wipeE_length]
section
variable {K : PySem.W.Frag} {F : Fm} {vs vs' : List (Option V)} {H : Hp} {os : En} {tmp : List (D × V)}
/-- what stands where no data is told does not matter -/
theorem ER.irr (I : ER K F vs H os tmp) (l : vs'.length = vs.length) (h : ∀ (i : Nat) (o : O), os[i]? = some (some o) → vs'[i]? = vs[i]?) (pn : ∀ q ∈ F.pn, vs'[q.1]? = some (some q.2)) : ER K F vs' H os tmp := by
  obtain ⟨fp, f, t⟩ := I.fit
  exact ⟨l.trans I.len, ⟨fp, ⟨fun i o e => by rw [h i o e]; exact f.rep i o e, f.dj, f.mu⟩, t⟩, I.st, I.av, I.om, pn⟩
theorem ER.wipe {σ : L2.St} {xv : List (Option V)} {en xo : En} : ∀ {ws : List Nat}, ER K F (σ ++ xv) H (en ++ xo) tmp → (∀ q ∈ F.pn, q.1 ∉ ws) → (∀ w ∈ ws, w < en.length) → σ.length = en.length → ER K F (wipe σ ws ++ xv) H (wipeE en ws ++ xo) tmp
  | [], I, _, _, _ => I
  | w :: ws, I, hp, hw, hl => by
    have ih := ER.wipe (ws := ws) I (fun q hq z => hp q hq (List.mem_cons_of_mem _ z)) (fun v hv => hw v (List.mem_cons_of_mem _ hv)) hl
    have := ih.unset (i := w) fun q hq z => hp q hq (by rw [z]; exact List.mem_cons_self)
    have h1 : w < (L2.wipe σ ws).length := by rw [wipe_length, hl]; exact hw w List.mem_cons_self
    have h2 : w < (wipeE en ws).length := by rw [wipeE_length]; exact hw w List.mem_cons_self
    rw [List.set_append_left _ _ h1, List.set_append_left _ _ h2] at this
    exact this
theorem wipe_at {σ : L2.St} {i : Nat} : ∀ {ws : List Nat}, i ∉ ws → (L2.wipe σ ws)[i]? = σ[i]?
  | [], _ => rfl
  | w :: ws, h => by
    unfold L2.wipe
    rw [List.getElem?_set_ne fun z => h (by rw [z]; exact List.mem_cons_self)]
    exact wipe_at fun z => h (List.mem_cons_of_mem _ z)
theorem wipeE_some {en : En} {i : Nat} {o : O} : ∀ {ws : List Nat}, (wipeE en ws)[i]? = some (some o) → i ∉ ws ∧ en[i]? = some (some o)
  | [], h => ⟨by simp, h⟩
  | w :: ws, h => by
    unfold wipeE at h
    by_cases z : w = i
    · subst z
      by_cases hw : w < (wipeE en ws).length
      · rw [List.getElem?_set_self hw] at h; cases h
      · rw [List.getElem?_eq_none (by simpa using hw)] at h; cases h
    · rw [List.getElem?_set_ne z] at h
      obtain ⟨h1, h2⟩ := wipeE_some h
      exact ⟨by simp only [List.mem_cons, not_or]; exact ⟨fun e => z e.symm, h1⟩, h2⟩
theorem wipe_eq {σ τ : L2.St} (l : σ.length = τ.length) : ∀ {ws : List Nat}, (∀ j, j ∉ ws → σ[j]? = τ[j]?) → L2.wipe σ ws = L2.wipe τ ws := fun {ws} h => by
  apply List.ext_getElem?
  intro j
  by_cases hj : j ∈ ws
  · have z : ∀ (ρ : L2.St) (us : List Nat), j ∈ us → (L2.wipe ρ us)[j]? = if j < ρ.length then some none else none := by
      intro ρ us
      induction us with
      | nil => intro q; cases q
      | cons u us ih =>
        intro q
        unfold L2.wipe
        by_cases e : u = j
        · subst e
          by_cases hu : u < ρ.length
          · rw [List.getElem?_set_self (by rw [wipe_length]; exact hu), if_pos hu]
          · rw [List.getElem?_eq_none (by simp [wipe_length]; omega), if_neg hu]
        · rw [List.getElem?_set_ne e]
          exact ih (by rcases List.mem_cons.mp q with z | z; exact absurd z.symm e; exact z)
    rw [z σ ws hj, z τ ws hj, l]
  · rw [wipe_at hj, wipe_at hj]
    exact h j hj
end

abbrev BI (ι : Type) := ι × Shared × Hp × Addr × List (Str × Addr) × List Addr
/-- the contexts of a comprehension's block -/
abbrev blkF {ι : Type} (X : ι → Cx) (scope : Scope) : BI ι → Cx := fun j => (X j.1).blk j.2.1 j.2.2.1 scope (compEnvC scope j.2.2.2.2.1 j.2.2.2.1 (X j.1).env) j.2.2.2.2.2
/-- no exception is let out -/
abbrev W0 : WX := fun _ _ _ _ => False
structure DTs {ι : Type} (X : ι → Cx) (Wf : ι → WX) (K : PySem.W.Frag) (n : Nat) (P : Nat → Bool) (es : List Expr) (f : En → Out Bool) : Prop where
  ex : ∃ t : WX → TT, (∀ i, PTs (X i) es (t (Wf i))) ∧ ∀ (W : WX) (S : Su) σ H en Q, Fine n P S en → Stt K S σ H en S.tmp → PoT K S W σ Q (f en) → t W σ H Q
section
variable {ι : Type} {X : ι → Cx} {Wf : ι → WX} {K : PySem.W.Frag} {n : Nat} {P : Nat → Bool} {s : Stmt} {ss : List Stmt} {e a b tg elt iter : Expr} {es ifs : List Expr} {pos : Pos}
theorem dts_nil : DTs X Wf K n P [] (fun en => .ok true en) := ⟨fun _ => tYes, fun _ => pts_nil, fun W S σ H en Q fi I Po => Po H I⟩
theorem dts_one {f : En → Out Bool} (h : DT X Wf K n P e f) : DTs X Wf K n P [e] f := by
  obtain ⟨t, p, r⟩ := h.ex
  exact ⟨t, fun i => pts_one (p i), r⟩
def compD (asg : D → En → Option En) (tt : En → Out Bool) (f : En → Out D) (vs : List Nat) : List D → List D → En → Out (List D)
  | [], acc, en => .ok acc en
  | d :: ds, acc, en => match asg d (wipeE en vs) with
    | none => .bad
    | some en1 => match tt en1 with
      | .ok true en2 => match f en2 with
        | .ok y en3 => compD asg tt f vs ds (acc ++ [y]) en3
        | _ => .bad
      | .ok false en2 => compD asg tt f vs ds acc en2
      | _ => .bad
def lcF (it : En → Out (List D)) (asg : D → En → Option En) (tt : En → Out Bool) (f : En → Out D) (vs : List Nat) : En → Out O := fun en => (it en).bind fun ds en => (compD asg tt f vs ds [] en).bind fun acc en => .ok (.fl (.lst acc)) (wipeE en vs)
/-- the surroundings with one more cell -/
def Su.c (S : Su) (v : Option V) (o : Option O) (tmp : List (D × V)) : Su := ⟨S.F, S.xv ++ [v], S.xo ++ [o], tmp, by simp [S.xl]⟩
theorem lc_run {it : En → Out (List D)} {asg : D → En → Option En} {tt : En → Out Bool} {f : En → Out D} {vs sl : List Nat} {g : TG} {tT : WX → TT} {te : WX → TE} {ti : WX → TI}
    (hw : ∀ v ∈ vs, v < n ∧ P v = false) (hsl : ∀ v ∈ sl, v ∈ vs)
    (ri : ∀ (W : WX) (S : Su) σ H en R, Fine n P S en → Stt K S σ H en S.tmp → PoI K S W σ R (it en) → ti W σ H R)
    (rg : ∀ (S : Su) σ H en d x Q, Fine n P S en → Stt K S σ H en ((d, x) :: S.tmp) → (match asg d en with | none => False | some en' => ∀ σ' H', σ'.length = σ.length → (∀ j, j ∉ sl → σ'[j]? = σ[j]?) → Stt K S σ' H' en' S.tmp → Q σ' H') → g x σ H Q)
    (rt : ∀ (W : WX) (S : Su) σ H en Q, Fine n P S en → Stt K S σ H en S.tmp → PoT K S W σ Q (tt en) → tT W σ H Q)
    (re : ∀ (W : WX) (S : Su) σ H en Q, Fine n P S en → Stt K S σ H en S.tmp → PoE K S W σ Q (f en) → te W σ H Q)
    {W : WX} {S : Su} {σ : L2.St} {H : Hp} {en : En} {Q : VK} (fi : Fine n P S en) (I : Stt K S σ H en S.tmp) (Po : PoF K S W σ Q (lcF it asg tt f vs en)) : tLc (ti W) g (tT W0) (te W0) vs σ H Q := by
  refine ri W S σ H en _ fi I ?_
  unfold lcF at Po
  cases q : it en with
  | bad => rw [q] at Po; exact Po
  | ex C fs en' => rw [q] at Po; exact Po
  | ok ds en1 =>
    rw [q] at Po
    intro J H1 tmp1 wq s1 sw I1 wk hz D hD
    have Po : PoF K S W σ Q ((compD asg tt f vs ds [] en1).bind fun acc en => .ok (.fl (.lst acc)) (wipeE en vs)) := Po
    have f1 := fi.to I I1 rfl
    have pins : ∀ q ∈ S.F.pn, q.1 ∉ vs := fun q hq z => by
      have := (hw q.1 z).2
      rw [(fi.pin q hq).2] at this; cases this
    have hl1 := Stt.len I1
    have wl : ∀ v ∈ vs, v < en1.length := fun v hv => by rw [f1.len]; exact (hw v hv).1
    have I2 : ER K S.F (L2.wipe σ vs ++ (S.xv ++ [some (.ref D)])) (upd H1 D (.lst [])) (wipeE en1 vs ++ (S.xo ++ [some (.fl (.lst []))])) tmp1 := by
      have z := (ER.wipe I1 pins wl hl1).newO (p := D) (u := .lst []) (d := .lst []) hD fun Lv _ => ⟨Nat.zero_le _, rfl⟩
      rw [List.append_assoc, List.append_assoc] at z
      exact z
    refine ⟨fun i m H' => m = ds.length - i ∧ i ≤ ds.length ∧ ∃ acc en', en'.length = n ∧ ER K S.F (L2.wipe σ vs ++ (S.xv ++ [some (.ref D)])) H' (wipeE en' vs ++ (S.xo ++ [some (.fl (.lst acc))])) tmp1 ∧ acc.length ≤ i ∧
      PoF K S W σ Q ((compD asg tt f vs (ds.drop i) acc en').bind fun acc en => .ok (.fl (.lst acc)) (wipeE en vs)), ⟨ds.length, by simp, Nat.zero_le _, [], en1, f1.len, I2, Nat.le_refl _, Po⟩, ?_⟩
    rintro i m H' ⟨rfl, hi', acc, en', le', J', la, Pj⟩
    obtain ⟨Lv, op, k⟩ := J'.opn
    have hwq : ∀ q ∈ wq, Rep K H' Lv q.1 q.2 := fun q hq => op.tm q (sw q hq)
    by_cases hlt : i < ds.length
    · refine .inr ⟨wk.go i H' Lv hlt hwq, fun H2 => i + 1 ≤ ds.length ∧ ∃ acc en', en'.length = n ∧ ER K S.F (L2.wipe σ vs ++ (S.xv ++ [some (.ref D)])) H2 (wipeE en' vs ++ (S.xo ++ [some (.fl (.lst acc))])) tmp1 ∧ acc.length ≤ i + 1 ∧
        PoF K S W σ Q ((compD asg tt f vs (ds.drop (i + 1)) acc en').bind fun acc en => .ok (.fl (.lst acc)) (wipeE en vs)), fun H2 h => ⟨_, by omega, rfl, h⟩, fun x H2 y => ?_⟩
      obtain ⟨gr, rx⟩ := wk.yld i H' Lv x H2 ds[i] (List.getElem?_eq_getElem hlt) op.mu hwq y
      rw [List.drop_eq_getElem_cons hlt, compD] at Pj
      let S2 : Su := S.c (some (.ref D)) (some (.fl (.lst acc))) tmp1
      have J2 : Stt K S2 (L2.wipe σ vs) H2 (wipeE en' vs) ((ds[i], x) :: tmp1) := k H2 _ gr fun q hq => (List.mem_cons.mp hq).elim (fun z => .inr (by rw [z]; exact rx)) .inl
      have fw : Fine n P S2 (wipeE en' vs) := ⟨by rw [wipeE_length]; exact le', fi.pin⟩
      refine rg S2 (L2.wipe σ vs) H2 (wipeE en' vs) ds[i] x _ fw J2 ?_
      cases qa : asg ds[i] (wipeE en' vs) with
      | none => rw [qa] at Pj; exact Pj.elim
      | some en2 =>
        rw [qa] at Pj
        intro σ3 H3 l3 ne3 J3
        have f3 := fw.to J2 J3 l3
        have wp : L2.wipe σ3 vs = L2.wipe σ vs := by
          have l4 : σ3.length = σ.length := by rw [l3, wipe_length]
          refine wipe_eq l4 fun j hj => ?_
          rw [ne3 j fun z => hj (hsl j z), wipe_at hj]
        refine ⟨wp, rt W0 S2 σ3 H3 en2 _ f3 J3 ?_⟩
        cases q2 : tt en2 with
        | bad => simp only [q2] at Pj; exact Pj.elim
        | ex C fs en3 => simp only [q2] at Pj; exact Pj.elim
        | ok bb en3 =>
          simp only [q2] at Pj
          intro H4 J4
          have f4 := f3.to J3 J4 rfl
          -- behind a turn: the slots are wiped again
          have again : ∀ {H6 : Hp} {en6 : En} {acc6 : List Dn.D}, Stt K (S.c (some (.ref D)) (some (.fl (.lst acc6))) tmp1) σ3 H6 en6 tmp1 → en6.length = n → ER K S.F (L2.wipe σ vs ++ (S.xv ++ [some (.ref D)])) H6 (wipeE en6 vs ++ (S.xo ++ [some (.fl (.lst acc6))])) tmp1 := fun {H6 en6 acc6} J6 l6 => by
            rw [← wp]
            exact ER.wipe J6 pins (fun v hv => by rw [l6]; exact (hw v hv).1) (Stt.len J6)
          cases bb with
          | false => exact ⟨hlt, acc, en3, f4.len, again J4 f4.len, Nat.le_succ_of_le la, Pj⟩
          | true =>
            refine re W0 S2 σ3 H4 en3 _ f4 J4 ?_
            have Pj : PoF K S W σ Q (Out.bind (match f en3 with | .ok y en3 => compD asg tt f vs (ds.drop (i + 1)) (acc ++ [y]) en3 | _ => .bad) fun acc en => .ok (.fl (.lst acc)) (wipeE en vs)) := Pj
            cases q3 : f en3 with
            | bad => rw [q3] at Pj; exact Pj.elim
            | ex C fs en4 => rw [q3] at Pj; exact Pj.elim
            | ok y en4 =>
              rw [q3] at Pj
              intro v H5 J5
              have f5 := f4.to J4 J5 rfl
              have lx := S.xl
              have l5 := Stt.len J5
              have cell : (en4 ++ (S.xo ++ [some (O.fl (.lst acc))]))[en4.length + S.xo.length]? = some (some (.fl (.lst acc))) := by
                rw [← List.append_assoc, List.getElem?_append_right (by simp)]; simp
              obtain ⟨Lv5, a5, u5, op5, hv5, hu5, _, hc5, wr⟩ := ER.wr (i := en4.length + S.xo.length) J5 cell
              have ea : a5 = D := by
                have : (σ3 ++ (S.xv ++ [some (V.ref D)]))[en4.length + S.xo.length]? = some (some (.ref D)) := by
                  rw [← List.append_assoc, ← lx, ← l5, List.getElem?_append_right (by simp)]; simp
                rw [show (σ3 ++ S2.xv) = (σ3 ++ (S.xv ++ [some (V.ref D)])) from rfl, this] at hv5
                cases hv5; rfl
              subst ea
              cases u5 with
              | lst vs5 =>
                obtain ⟨lz, rl⟩ := hc5
                have ry := op5.tm _ List.mem_cons_self
                have hl5 : vs5.length < sizeLine := by rw [rl.length]; omega
                refine ⟨vs5, hu5, hl5, hlt, acc ++ [y], en4, f5.len, ?_, by simp; omega, Pj⟩
                have nw := wr (.lst (vs5 ++ [v])) (.lst (acc ++ [y])) ⟨by simp; omega, rl.append ⟨v, [], rfl, ry, rfl⟩⟩
                have se : (en4 ++ (S.xo ++ [some (O.fl (.lst acc))])).set (en4.length + S.xo.length) (some (.fl (.lst (acc ++ [y])))) = en4 ++ (S.xo ++ [some (.fl (.lst (acc ++ [y])))]) := by
                  rw [← List.append_assoc, List.set_append_right _ _ (by simp), ← List.append_assoc]; simp
                rw [show (en4 ++ S2.xo) = (en4 ++ (S.xo ++ [some (O.fl (.lst acc))])) from rfl, se] at nw
                exact again (acc6 := acc ++ [y]) nw.pop f5.len
              | _ => exact hc5.elim
    · have hzz : i = ds.length := by omega
      subst hzz
      rw [List.drop_length, compD] at Pj
      refine .inl ⟨wk.stop H' Lv hwq, Pj (.ref D) H' ?_⟩
      have J7 := J'.sub s1
      have l7 : σ.length = en'.length := by rw [le', ← fi.len]; exact Stt.len I
      refine J7.irr (by simp [wipe_length]) (fun j o e => ?_) (fun q hq => ?_)
      · by_cases hj : j < en'.length
        · rw [List.getElem?_append_left (by rw [wipeE_length]; exact hj)] at e
          rw [List.getElem?_append_left (by rw [l7]; exact hj), List.getElem?_append_left (by rw [wipe_length, l7]; exact hj), wipe_at (wipeE_some e).1]
        · rw [List.getElem?_append_right (l₁ := σ) (by rw [l7]; omega), List.getElem?_append_right (l₁ := L2.wipe σ vs) (by rw [wipe_length, l7]; omega), wipe_length]
      · have := J7.pin q hq
        have lq := (fi.pin q hq).1
        rw [List.getElem?_append_left (by rw [wipe_length, l7, le']; exact lq), wipe_at (pins q hq)] at this
        rw [List.getElem?_append_left (by rw [l7, le']; exact lq)]
        exact this
theorem df_lc {it : En → Out (List D)} {asg : D → En → Option En} {tt : En → Out Bool} {f : En → Out D} {sl : List Nat} {scope : Scope} {own : List (Str × Nat)}
    (hc : ∀ i, (X i).calm = true) (hN : ∀ i, (X i).N.Nodup) (ok : ∀ i, BlkOk (X i).N (X i).env.scope scope own) (hw : ∀ v ∈ own.map (·.2), v < n ∧ P v = false) (hsl : ∀ v ∈ sl, v ∈ own.map (·.2))
    (hi : DI X Wf K n P tg iter it) (hg : DG (blkF X scope) K n P tg sl asg) (ht : DTs (blkF X scope) (fun _ => W0) K n P ifs tt) (he : DE (blkF X scope) (fun _ => W0) K n P elt f)
    (hs : ∀ i x, foldedSetIterable iter (X i).env x = pure x := by intro _ _; rfl) : DF X Wf K n P (.ListComp elt [⟨tg, iter, ifs, 0⟩] scope pos) (lcF it asg tt f (own.map (·.2))) := by
  obtain ⟨ti, pi, ri⟩ := hi.ex
  obtain ⟨g, pg, rg⟩ := hg.ex
  obtain ⟨tT, pt, rt⟩ := ht.ex
  obtain ⟨te, pe, re⟩ := he.ex
  exact ⟨fun W => tLc (ti W) g (tT W0) (te W0) (own.map (·.2)), fun i => pe_lc (hc i) (hN i) (pi i) (ok i) (fun s H C cl fp => pg (i, s, H, C, cl, fp)) (fun s H C cl fp => pt (i, s, H, C, cl, fp)) (fun s H C cl fp => pe (i, s, H, C, cl, fp)) (hs i),
    fun W S σ H en Q fi I Po => lc_run hw hsl ri rg rt re fi I Po⟩
/-- name = [..]: the target's store comes within the comprehension -/
theorem ds_setLc {it : En → Out (List D)} {asg : D → En → Option En} {tt : En → Out Bool} {f : En → Out D} {sl : List Nat} {scope : Scope} {own : List (Str × Nat)} {j : Nat} {y : Str} {py spos : Pos}
    (hc : ∀ i, (X i).calm = true) (hN : ∀ i, (X i).N.Nodup) (hy : ∀ i, (X i).N[j]? = some y) (hyl : ∀ i, (X i).env.scope.names.lookup y = some .local)
    (hsw : ∀ i, swapsWith (.ListComp elt [⟨tg, iter, ifs, 0⟩] scope pos) (some (.Name y py)) spos.line (X i).env = pure true)
    (hj : j < n) (hP : P j = false) (ok : ∀ i, BlkOk (X i).N (X i).env.scope scope own) (hw : ∀ v ∈ own.map (·.2), v < n ∧ P v = false) (hsl : ∀ v ∈ sl, v ∈ own.map (·.2))
    (hi : DI X Wf K n P tg iter it) (hg : DG (blkF X scope) K n P tg sl asg) (ht : DTs (blkF X scope) (fun _ => W0) K n P ifs tt) (he : DE (blkF X scope) (fun _ => W0) K n P elt f)
    (hs : ∀ i x, foldedSetIterable iter (X i).env x = pure x := by intro _ _; rfl) : DS X Wf K n P (.Assign [.Name y py] (.ListComp elt [⟨tg, iter, ifs, 0⟩] scope pos) spos) (setO j (lcF it asg tt f (own.map (·.2)))) := by
  obtain ⟨ti, pi, ri⟩ := hi.ex
  obtain ⟨g, pg, rg⟩ := hg.ex
  obtain ⟨tT, pt, rt⟩ := ht.ex
  obtain ⟨te, pe, re⟩ := he.ex
  refine ⟨fun W => tAsg (tLc (ti W) g (tT W0) (te W0) (own.map (·.2))) (gName j), fun i => ps_setLc (hc i) (hN i) (hy i) (hyl i) (hsw i) (pi i) (ok i) (fun s H C cl fp => pg (i, s, H, C, cl, fp)) (fun s H C cl fp => pt (i, s, H, C, cl, fp)) (fun s H C cl fp => pe (i, s, H, C, cl, fp)) (hs i),
    fun W S σ H en B fi I Po => ?_⟩
  refine lc_run hw hsl ri rg rt re (W := W) fi I ?_
  unfold setO at Po
  cases q : lcF it asg tt f (own.map (·.2)) en with
  | ok o en' =>
    rw [q] at Po
    intro v H1 J
    have l : j < σ.length := by rw [Stt.len I, fi.len]; exact hj
    have lj := J.len
    have lx := S.xl
    have ls := Stt.len I
    simp only [List.length_append, List.length_cons, List.length_nil] at lj
    refine Po (σ.set j (some v)) H1 (by simp) ?_
    rw [← List.append_assoc, ← List.append_assoc] at J
    have := ER.mv (i := j) J (fun q hq => ⟨pinNe fi hP q hq, by
      have := (fi.pin q hq).1
      have := fi.len
      simp only [List.length_append]
      omega⟩) (by simp only [List.length_append]; omega)
    rw [List.set_append_left _ _ l, List.set_append_left _ _ (by omega)] at this
    exact this
  | ex C fs en' => rw [q] at Po; exact Po.x
  | bad => rw [q] at Po; exact Po
end
end Dn
/-! Changes of own objects, attributes, objects made, errors raised and caught. -/
namespace Dn
open PySem PySem.Spec PyProof.Rows L2

section
variable {ι : Type} {X : ι → Cx} {Wf : ι → WX} {K : PySem.W.Frag} {n : Nat} {P : Nat → Bool} {s : Stmt} {ss : List Stmt} {e a b : Expr} {es : List Expr} {pos : Pos}
theorem Stt.slot {S : Su} {σ : L2.St} {H : Hp} {en : En} {tmp : List (D × V)} (I : Stt K S σ H en tmp) {j : Nat} {o : O} (e : en[j]? = some (some o)) : ∃ v, σ[j]? = some (some v) := by
  obtain ⟨Lv, op, _⟩ := ER.opn I
  obtain ⟨v, h, _⟩ := op.sl j o (getE e)
  have hi : j < σ.length := by rw [Stt.len I]; exact (List.getElem?_eq_some_iff.mp e).1
  rw [List.getElem?_append_left hi] at h
  exact ⟨v, h⟩
/-- the object of slot j is changed -/
theorem Stt.wr {S : Su} {σ : L2.St} {H : Hp} {en : En} {tmp : List (D × V)} (I : Stt K S σ H en tmp) {j : Nat} {d : D} (e : en[j]? = some (some (.fl d))) :
    ∃ Lv ad u, Opn K H Lv (σ ++ S.xv) (en ++ S.xo) tmp ∧ σ[j]? = some (some (.ref ad)) ∧ H ad = some u ∧ RepC K H Lv u d ∧ ∀ u' d', RepC K H Lv u' d' → Stt K S σ (upd H ad u') (en.set j (some (.fl d'))) tmp := by
  obtain ⟨Lv, ad, u, op, hv, hu, _, hc, w⟩ := ER.wr I (getE e)
  have hj : j < en.length := (List.getElem?_eq_some_iff.mp e).1
  have hi : j < σ.length := by rw [Stt.len I]; exact hj
  rw [List.getElem?_append_left hi] at hv
  refine ⟨Lv, ad, u, op, hv, hu, hc, fun u' d' c => ?_⟩
  have := w u' d' c
  rw [List.set_append_left _ _ hj] at this
  exact this

/-! ### xs.append(e), xs[i] = e -/
def lstAt (en : En) (j : Nat) : Option (List D) := match en[j]? with
  | some (some (.fl (.lst ds))) => some ds
  | _ => none
theorem lstAt_eq {en : En} {j : Nat} {ds : List D} (h : lstAt en j = some ds) : en[j]? = some (some (.fl (.lst ds))) := by
  unfold lstAt at h
  split at h
  · rename_i q; cases h; exact q
  · cases h
def appD (j : Nat) (f : En → Out D) : En → Out Fl := fun en => match lstAt en j with
  | none => .bad
  | some _ => (f en).bind fun d en => match lstAt en j with
    | none => .bad
    | some ds => if ds.length < 16777216 then .ok .nx (en.set j (some (.fl (.lst (ds ++ [d]))))) else .bad
theorem ds_append {j : Nat} {f : En → Out D} (he : DE X Wf K n P a f) (mk : ∀ i t, PE (X i) a t → PS (X i) s (tDrop (tBM K "list" rAppend (tVar j) (tCons t tNil)))) : DS X Wf K n P s (appD j f) := by
  obtain ⟨t, p, r⟩ := he.ex
  refine ⟨fun W => tDrop (tBM K "list" rAppend (tVar j) (tCons (t W) tNil)), fun i => mk i _ (p i), fun W S σ H en B fi I Po => ?_⟩
  unfold appD at Po
  split at Po
  · exact Po.elim
  · rename_i ds0 q0
    have e0 := lstAt_eq q0
    obtain ⟨Lv0, ad0, u0, _, hv0, hu0, hc0, _⟩ := Stt.wr I e0
    cases u0 with
    | lst xs0 =>
      refine ⟨_, hv0, .inl ⟨rfl, xs0, .inl (.inl hu0)⟩, r W S σ H en _ fi I ?_⟩
      cases q : f en with
      | ok d en1 =>
        rw [q] at Po
        intro v H1 J
        have Po : PoS K S W σ B (match lstAt en1 j with | none => .bad | some ds => if ds.length < 16777216 then .ok .nx (en1.set j (some (.fl (.lst (ds ++ [d]))))) else .bad) := Po
        split at Po
        · exact Po.elim
        · rename_i ds q1
          by_cases hl : ds.length < 16777216
          · rw [if_pos hl] at Po
            obtain ⟨Lv, ad, u, op, hv, hu, hc, w⟩ := Stt.wr J (lstAt_eq q1)
            rw [hv0] at hv
            cases hv
            cases u with
            | lst xs =>
              obtain ⟨hz, rl⟩ := hc
              refine ⟨_, xs, v, rfl, rfl, hu, by rw [rl.length, sizeLine_eq]; exact hl, ?_⟩
              refine Po σ _ rfl (ER.pop (w (.lst (xs ++ [v])) (.lst (ds ++ [d])) ⟨?_, rl.append ⟨v, [], rfl, op.tm _ List.mem_cons_self, rfl⟩⟩))
              rw [List.length_append, sizeLine_eq]; exact hl
            | _ => exact hc.elim
          · rw [if_neg hl] at Po; exact Po.elim
      | ex C fs en' => rw [q] at Po; exact Po.x
      | bad => rw [q] at Po; exact Po
    | _ => exact hc0.elim
def intOf : Option D → Option Int
  | some (.int k) => some k
  | _ => none
theorem intOf_eq {o : Option D} {k : Int} (h : intOf o = some k) : o = some (.int k) := by
  unfold intOf at h
  split at h
  · cases h; rfl
  · cases h
def setiD (j : Nat) (f : En → Out D) (g : En → Out AR) : En → Out Fl := fun en => (f en).bind fun d en => (g en).bind fun ar en => match lstAt en j with
  | none => .bad
  | some ds => match intOf (viewA en ar) with
    | none => .bad
    | some k => match ixN ds.length k with
      | none => .bad
      | some m => .ok .nx (en.set j (some (.fl (.lst (ds.set m d)))))
theorem ds_seti {j : Nat} {f : En → Out D} {g : En → Out AR} (he : DE X Wf K n P a f) (hi : DA X Wf K n P b g) (hjv : ∀ (en : En) d en' , f en = .ok d en' → ∀ o, en[j]? = some (some o) → True)
    (mk : ∀ i t t2, PE (X i) a t → PE (X i) b t2 → PS (X i) s (tAsg t (gSub (tVar j) t2 rSetL))) (hn : j < n) : DS X Wf K n P s (fun en => match lstAt en j with | none => .bad | some _ => setiD j f g en) := by
  obtain ⟨t, p, r⟩ := he.ex
  obtain ⟨t2, p2, r2⟩ := hi.ex
  refine ⟨fun W => tAsg (t W) (gSub (tVar j) (t2 W) rSetL), fun i => mk i _ _ (p i) (p2 i), fun W S σ H en B fi I Po => ?_⟩
  split at Po
  · exact Po.elim
  rename_i ds0 q0
  obtain ⟨v0, hv0⟩ := Stt.slot I (lstAt_eq q0)
  refine r W S σ H en _ fi I ?_
  unfold setiD at Po
  cases q : f en with
  | ok d en1 =>
    rw [q] at Po
    intro v H1 J
    refine ⟨v0, hv0, r2 W (S.w ((d, v) :: S.tmp)) σ H1 en1 _ ((fi.to I J rfl).w _) J ?_⟩
    have Po : PoS K S W σ B ((g en1).bind fun ar en => match lstAt en j with
      | none => .bad
      | some ds => match intOf (viewA en ar) with
        | none => .bad
        | some k => match ixN ds.length k with
          | none => .bad
          | some m => .ok .nx (en.set j (some (.fl (.lst (ds.set m d)))))) := Po
    cases q2 : g en1 with
    | ok ar en2 =>
      rw [q2] at Po
      intro u H2 tmp2 s2 J2 h2
      have Po : PoS K S W σ B (match lstAt en2 j with
        | none => .bad
        | some ds => match intOf (viewA en2 ar) with
          | none => .bad
          | some k => match ixN ds.length k with
            | none => .bad
            | some m => .ok .nx (en2.set j (some (.fl (.lst (ds.set m d)))))) := Po
      split at Po
      · exact Po.elim
      rename_i ds q3
      split at Po
      · exact Po.elim
      rename_i k q4
      split at Po
      · exact Po.elim
      rename_i m q5
      obtain ⟨Lv, ad, uu, op, hv, hu, hc, w⟩ := Stt.wr J2 (lstAt_eq q3)
      rw [hv0] at hv
      cases hv
      have eu : u = .int k := op.arg h2 (intOf_eq q4)
      cases uu with
      | lst xs =>
        obtain ⟨hz, rl⟩ := hc
        refine ⟨_, xs, k, m, rfl, eu, hu, by rw [rl.length]; exact q5, ?_⟩
        have J3 := w (.lst (xs.set m v)) (.lst (ds.set m d)) ⟨by rw [List.length_set]; exact hz, rl.set m (op.tm _ (s2 _ List.mem_cons_self))⟩
        exact Po σ _ rfl (ER.sub J3 fun q hq => s2 q (List.mem_cons_of_mem _ hq))
      | _ => exact hc.elim
    | ex C fs en' => rw [q2] at Po; exact PoX.w Po.x fun q hq => List.mem_cons_of_mem _ hq
    | bad => rw [q2] at Po; exact Po
  | ex C fs en' => rw [q] at Po; exact Po.x
  | bad => rw [q] at Po; exact Po

/-! ### attributes -/
def look (f : Str) : List Str → List D → Option D
  | m :: ns, d :: ds => if f = m then some d else look f ns ds
  | _, _ => none
theorem look_zip {H : Hp} {Lv : Addr → Prop} {f : Str} {d : D} : ∀ {ns : List Str} {ds : List D} {vs : List V}, RepL K H Lv ds vs → look f ns ds = some d → ∃ v, (ns.zip vs).lookup f = some v ∧ Rep K H Lv d v
  | [], _, _, _, h => by simp [look] at h
  | _ :: _, [], _, _, h => by simp [look] at h
  | m :: ns, d' :: ds, _, ⟨v, ws, e, r, hs⟩, h => by
    subst e
    unfold look at h
    by_cases c : f = m
    · rw [if_pos c] at h; cases h
      exact ⟨v, by simp [c], r⟩
    · rw [if_neg c] at h
      obtain ⟨v', h', r'⟩ := look_zip hs h
      refine ⟨v', ?_, r'⟩
      have : (f == m) = false := by simpa using c
      simp [List.lookup, this, h']
/-- an instance's field; Cs: the classes it may be of -/
def fldG (Cs : List Addr) (f : Str) : D → Option D
  | .ob C ns ds => if C ∈ Cs then look f ns ds else none
  | _ => none
theorem de_fld {Cs : List Addr} {f : Str} {g : En → Out AR} (hC : ∀ C ∈ Cs, Cls K C ∧ NoAttr K C f) (ha : DA X Wf K n P a g) (mk : ∀ i t, PE (X i) a t → PE (X i) e (tFld K t f)) : DE X Wf K n P e (op1 (fldG Cs f) g) := by
  obtain ⟨t, p, rd⟩ := ha.ex
  refine ⟨fun W => tFld K (t W) f, fun i => mk i _ (p i), fun W S σ H en Q fi I Po => rd W S σ H en _ fi I ?_⟩
  unfold op1 at Po
  cases q : g en with
  | ok ar en1 =>
    rw [q] at Po
    intro v H1 tmp1 s1 J h1
    obtain ⟨c, ec, Po⟩ := liftD Po
    obtain ⟨d, e1, e2⟩ := bind_some ec
    obtain ⟨Lv, op, k⟩ := ER.opn J
    have rr := op.arg h1 e1
    unfold fldG at e2
    split at e2
    · rename_i C ns ds
      by_cases hm : C ∈ Cs
      · rw [if_pos hm] at e2
        obtain ⟨ad, dx, vs, ev, hob, _, hs⟩ := rr
        obtain ⟨v', hl, r'⟩ := look_zip hs e2
        exact ⟨ad, C, dx, _, v', ev, hob, (hC C hm).1, (hC C hm).2, hl, Po v' H1 (ER.add k Grow.refl r' s1)⟩
      · rw [if_neg hm] at e2; cases e2
    · cases e2
  | ex C fs en' => rw [q] at Po; exact Po
  | bad => rw [q] at Po; exact Po
def putN (f : Str) (d : D) : List Str → List D → List Str × List D
  | m :: ns, x :: ds => if m = f then (m :: ns, d :: ds) else let r := putN f d ns ds; (m :: r.1, x :: r.2)
  | _, _ => ([f], [d])
theorem putN_zip {H : Hp} {Lv : Addr → Prop} {f : Str} {d : D} {v : V} (rv : Rep K H Lv d v) : ∀ {ns : List Str} {ds : List D} {vs : List V}, RepL K H Lv ds vs → ns.length = ds.length →
    ∃ ws, putF f v (ns.zip vs) = (putN f d ns ds).1.zip ws ∧ (putN f d ns ds).1.length = (putN f d ns ds).2.length ∧ RepL K H Lv (putN f d ns ds).2 ws
  | [], [], vs, h, _ => by cases h; exact ⟨[v], rfl, rfl, v, [], rfl, rv, rfl⟩
  | [], _ :: _, _, _, l => by cases l
  | _ :: _, [], _, _, l => by cases l
  | m :: ns, x :: ds, _, ⟨u, ws, e, r, hs⟩, l => by
    subst e
    unfold putN
    by_cases c : m = f
    · rw [if_pos c]
      refine ⟨v :: ws, ?_, by simpa using l, v, ws, rfl, rv, hs⟩
      show putF f v ((m, u) :: ns.zip ws) = _
      unfold putF
      rw [if_pos c]; subst c; rfl
    · rw [if_neg c]
      obtain ⟨ws', e', l', r'⟩ := putN_zip rv hs (by simpa using l)
      refine ⟨u :: ws', ?_, by simp [l'], u, ws', rfl, r, r'⟩
      show putF f v ((m, u) :: ns.zip ws) = _
      unfold putF
      rw [if_neg c, e']; rfl
def obAt (C : Addr) (en : En) (j : Nat) : Option (List Str × List D) := match en[j]? with
  | some (some (.fl (.ob C' ns ds))) => if C' = C then some (ns, ds) else none
  | _ => none
theorem obAt_eq {C : Addr} {en : En} {j : Nat} {ns : List Str} {ds : List D} (h : obAt C en j = some (ns, ds)) : en[j]? = some (some (.fl (.ob C ns ds))) := by
  unfold obAt at h
  split at h
  · rename_i C' ns' ds' q
    by_cases c : C' = C
    · rw [if_pos c] at h; cases h; rw [q, c]
    · rw [if_neg c] at h; cases h
  · cases h
/-- self.f = e -/
def setfD (C : Addr) (j : Nat) (f : Str) (g : En → Out D) : En → Out Fl := fun en => (g en).bind fun d en => match obAt C en j with
  | none => .bad
  | some (ns, ds) => if ns.length < 900 then .ok .nx (en.set j (some (.fl (.ob C (putN f d ns ds).1 (putN f d ns ds).2)))) else .bad
theorem ds_setf {C : Addr} {j : Nat} {f : Str} {g : En → Out D} (hC : Cls K C ∧ NoAttr K C f) (he : DE X Wf K n P a g) (mk : ∀ i t, PE (X i) a t → PS (X i) s (sFld K (tVar j) t f)) : DS X Wf K n P s (setfD C j f g) := by
  obtain ⟨t, p, r⟩ := he.ex
  refine ⟨fun W => sFld K (tVar j) (t W) f, fun i => mk i _ (p i), fun W S σ H en B fi I Po => r W S σ H en _ fi I ?_⟩
  unfold setfD at Po
  cases q : g en with
  | ok d en1 =>
    rw [q] at Po
    intro v H1 J
    have Po : PoS K S W σ B (match obAt C en1 j with
      | none => .bad
      | some (ns, ds) => if ns.length < 900 then .ok .nx (en1.set j (some (.fl (.ob C (putN f d ns ds).1 (putN f d ns ds).2)))) else .bad) := Po
    split at Po
    · exact Po.elim
    rename_i ns ds q1
    by_cases hl : ns.length < 900
    · rw [if_pos hl] at Po
      obtain ⟨Lv, ad, u, op, hv, hu, hc, w⟩ := Stt.wr J (obAt_eq q1)
      cases u with
      | ins C' dx fs =>
        obtain ⟨ec, vs, ef, ll, rl⟩ := hc
        subst ec; subst ef
        obtain ⟨ws, e1, e2, e3⟩ := putN_zip (f := f) (op.tm _ List.mem_cons_self) rl ll
        refine ⟨_, hv, ad, C', dx, _, rfl, hu, hC.1, hC.2, by rw [List.length_zip]; omega, ?_⟩
        exact Po σ _ rfl (ER.pop (w (.ins C' dx (putF f v (ns.zip vs))) (.ob C' _ _) ⟨rfl, ws, e1, e2, e3⟩))
      | _ => exact hc.elim
    · rw [if_neg hl] at Po; exact Po.elim
  | ex C fs en' => rw [q] at Po; exact Po.x
  | bad => rw [q] at Po; exact Po

/-! ### C(..): an object made -/
def tMakeS (C : Addr) (sp : Sp) (E : L2.St → XK) (t : TA) : TE := fun σ H Q => t σ H fun vs H1 => ∀ x dx, H1 x = none → H1 dx = none → dx ≠ x →
  sp (.ref x :: vs) (upd (upd H1 dx (.own x)) x (.ins C dx [])) (fun v H2 => v = .non ∧ Q (.ref x) H2) (E σ)
theorem run_makeS {X : Cx} {CX : CXT} {k : Nat} {f C : Addr} {fd : FuncData} {ps : List Str} {sp : Sp} {E : L2.St → XK} {pins : List (Addr × Obj)} {σ : L2.St} {H : Hp} {s : Shared} {Q : VK} {us : List Value} {vs : List V} (M : Mk X.K C f) (F : FnOk X.prog X.w X.K X.mg X.base CX k f fd ps sp) (hr : Room (k + 1) X.A) (hb : Binds X.K fd ps [])
    (hx : PassesAt CX X σ (E σ)) (I : Inv X pins σ H s) (r : Vals vs us)
    (h : ∀ x dx, H x = none → H dx = none → dx ≠ x → sp (.ref x :: vs) (upd (upd H dx (.own x)) x (.ins C dx [])) (fun v H2 => v = .non ∧ Q (.ref x) H2) (E σ)) :
    wpAny (model X.prog X.w) X.A (call (.ref C) us) (EP X pins σ Q) X.xe s := by
  have hq := h (s.heap.objs.size + 1) s.heap.objs.size (I.hok.fresh (Nat.le_succ _)) (I.hok.fresh (Nat.le_refl _)) (Nat.ne_of_lt (Nat.lt_succ_self _))
  have I2 := Inv.made (C := C) I
  have r2 : Vals (V.ref (s.heap.objs.size + 1) :: vs) (Value.ref (s.heap.objs.size + 1) :: us) := .cons rfl r
  have hl : (Value.ref (s.heap.objs.size + 1) :: us).length = ps.length := by
    have e := r2.length
    rw [F.len _ _ _ _ hq] at e
    exact e.symm
  have b := hb _ (Value.ref (s.heap.objs.size + 1) :: us) I2.kIn (by rw [List.append_nil]; exact hl)
  rw [List.append_nil] at b
  refine wpAny_call (make_map (f := f) I.kIn M.makes M.init (beq_iff_eq.mp M.fn) (codeAny_mono (F.run _ X.stack _ _ ⟨Value.ref (s.heap.objs.size + 1) :: us, []⟩ (Value.ref (s.heap.objs.size + 1) :: us) _ _ (E σ) (hr.make C us [])
    (I2.env0.make C us []) b r2 hq) fun r s' hq' => ?_))
  cases r with
  | error e => exact hx pins _ _ e s' I2 hq'
  | ok fl =>
    cases fl with
    | ret u =>
      obtain ⟨v, H', I3, rv, ev, q3⟩ := I2.after hq'
      subst ev
      exact ⟨rv, ⟨V.ref (s.heap.objs.size + 1), H', I3, rfl, q3⟩⟩
    | next => exact False.elim hq'
    | brk => exact False.elim hq'
    | cont => exact False.elim hq'
theorem pe_makeS {X : Cx} {CX : CXT} {k : Nat} {f C : Addr} {fd : FuncData} {ps : List Str} {sp : Sp} {E : L2.St → XK} {x : Str} {p pos : Pos} {e : Expr} {es : List Expr} {t : TA} (M : Mk X.K C f) (F : FnOk X.prog X.w X.K X.mg X.base CX k f fd ps sp) (hr : Room (k + 1) X.A) (hg : Gl X x) (hm : X.mg x = some (.ref C)) (hb : Binds X.K fd ps []) (hx : ∀ σ, PassesAt CX X σ (E σ))
    (ha : PA X (e :: es) t) (hdb : (x == ("__debug__" : Str)) = false := by decide) (he : starEach (e :: es) X.env = (false, eval e X.env) :: starEach es X.env := by rfl) (hpl : (backTo pos (starEach es X.env)).any (·.1) = false := by rfl) :
    PE X (.Call (.Name x p) (e :: es) [] pos) (tMakeS C sp E t) := by
  refine ⟨fun pins s σ H Q I h => ?_⟩
  refine wpAny_Call_Name_kw (ld_glob I hg hm ?_ hdb)
  refine PySem.W.callWith_K (h₀ := X.base) I.ok.mod.kin M.kp (thn (ha.run pos pins s σ H _ I h) fun us s1 ⟨vs, H1, I1, r, q⟩ => ⟨I1.kIn, ?_⟩) he hpl
  exact run_makeS M F hr hb (hx σ) I1 r q
/-- C(as): the new object first, then __init__'s own -/
def makeD (C : Addr) (F : Fn) (f : En → Out (List AR)) : En → Out O := fun en => (f en).bind fun as en => match arOs en as with
  | none => .bad
  | some os => if lent (as.map (arL en)) = true then match F (.fl (.ob C [] []) :: os) with
    | .ok (.val .non) (some o :: ps) => .ok o (wb en (as.map (arL en)) ps)
    | .ex D fs (_ :: ps) => .ex D fs (wb en (as.map (arL en)) ps)
    | _ => .bad
    else .bad
theorem lent_cons {k : Nat} : ∀ {ss : List (Option Nat)}, lent ss = true → (∀ (i j : Nat), ss[i]? = some (some j) → j < k) → lent (some k :: ss) = true := fun {ss} h hk => by
  unfold lent
  rw [Bool.and_eq_true]
  refine ⟨?_, h⟩
  have : (some k) ∉ ss := fun m => by
    obtain ⟨i, hi⟩ := List.mem_iff_getElem?.mp m
    exact absurd (hk i k hi) (Nat.lt_irrefl _)
  simp [this]
theorem makeRun0 {W : WX} {C : Addr} {F : Fn} {Q : VK} {S : Su} {σ : L2.St} {H : Hp} {en : En} {tmp : List (D × V)} {as : List AR} {vs : List V} (fi : Fine n P S en) (J : Stt K S σ H en tmp) (hs : Holds σ tmp as vs) (s1 : ∀ q ∈ S.tmp, q ∈ tmp)
    (Po : PoF K S W σ Q (match arOs en as with
      | none => .bad
      | some os => if lent (as.map arS) = true then match F (.fl (.ob C [] []) :: os) with
        | .ok (.val .non) (some o :: ps) => .ok o (wb en (as.map arS) ps)
        | .ex D fs (_ :: ps) => .ex D fs (wb en (as.map arS) ps)
        | _ => .bad
        else .bad)) {x dx : Addr} (hx : H x = none) (hdx : H dx = none) (hne : dx ≠ x) :
    SpD K F (.ref x :: vs) (upd (upd H dx (.own x)) x (.ins C dx [])) (fun v H2 => v = .non ∧ Q (.ref x) H2) (WE W σ) := by
  cases e1 : arOs en as with
  | none => rw [e1] at Po; exact Po.elim
  | some os =>
    simp only [e1] at Po
    by_cases lt : lent (as.map arS) = true
    · rw [if_pos lt] at Po
      obtain ⟨l1, l2, f1, f2⟩ := arFacts (en := en) hs e1
      have ltn : ∀ (k i : Nat), (as.map arS)[k]? = some (some i) → i < en.length := fun k i q => by
        obtain ⟨o, v, e, _⟩ := f1 k i q
        exact (List.getElem?_eq_some_iff.mp e).1
      -- the new object in a cell of its own
      have g1 : Grow H (upd H dx (.own x)) := Grow.upd hdx
      obtain ⟨Lv, _, k⟩ := ER.opn J
      have J1 : ER K S.F (σ ++ S.xv) (upd H dx (.own x)) (en ++ S.xo) tmp := k _ _ g1 fun q hq => .inl hq
      have hx1 : (upd H dx (.own x)) x = none := by rw [upd_ne hne.symm]; exact hx
      have J2 := J1.newO (p := x) (u := .ins C dx []) (d := .ob C [] []) hx1 fun _ _ => ⟨rfl, [], rfl, rfl, rfl⟩
      have lx := S.xl
      have ls := Stt.len J
      have lc : (en ++ S.xo).length = en.length + S.xo.length := by simp
      obtain ⟨F', h0, hp, st, back⟩ := ER.call (K := K) (ss := some (en.length + S.xo.length) :: as.map arS) (ws := .ref x :: vs) (as := .fl (.ob C [] []) :: os) J2 (by simp [l1]) (by simp [l2])
        (lent_cons lt fun i j q => by have := ltn i j q; omega) (fun k i q => by
          cases k with
          | zero =>
            have q : some (some (en.length + S.xo.length)) = some (some i) := q
            cases q
            refine ⟨?_, ?_⟩
            · rw [← lc]; simp
            · rw [show en.length + S.xo.length = (σ ++ S.xv).length by simp; omega]; simp
          | succ k =>
            obtain ⟨o, v, e1, e2, e3, e4⟩ := f1 k i q
            have hi := (List.getElem?_eq_some_iff.mp e1).1
            refine ⟨?_, ?_⟩
            · rw [List.getElem?_append_left (by simp; omega), getE e1]; show _ = some (os[k]?); rw [e2]
            · rw [List.getElem?_append_left (by simp; omega), getL e3]; show _ = some (vs[k]?); rw [e4]) (fun k q => by
          cases k with
          | zero => cases q
          | succ k => exact f2 k q)
      refine ⟨F', _, h0, hp, st, ?_⟩
      cases e2 : F (.fl (.ob C [] []) :: os) with
      | bad => rw [e2] at Po; exact Po.elim
      | ok r ps =>
        rw [e2] at Po
        split at Po
        · rename_i o ps' hEq
          cases hEq
          intro v H' hps E1
          have rv : v = .non := by
            obtain ⟨Lv', op', _⟩ := E1.opn
            obtain ⟨v', hv', rr⟩ := op'.sv ((some o :: ps').length) .non (by simp)
            have l0 : ((V.ref x :: vs).map some).length = (some o :: ps').length := by rw [hps]; simp [l2]
            rw [← l0] at hv'
            simp at hv'
            rw [← hv'] at rr
            exact rr
          refine ⟨rv, Po (.ref x) H' ?_⟩
          have E2 := back H' (some o :: ps') (.val .non) v [] hps E1
          have E3 := ER.drop E2 (fun q hq => by
            rw [wb_length]
            have := (fi.pin q hq).1
            have := fi.len
            simp only [List.length_append]; omega)
          rw [List.nil_append] at E3
          have hw : wb ((en ++ S.xo) ++ [some (O.fl (.ob C [] []))]) (some (en.length + S.xo.length) :: as.map arS) (some o :: ps') = wb en (as.map arS) ps' ++ (S.xo ++ [some o]) := by
            show (wb ((en ++ S.xo) ++ [some (O.fl (.ob C [] []))]) (as.map arS) ps').set (en.length + S.xo.length) (some o) = _
            rw [List.append_assoc, wb_app ltn, List.set_append_right _ _ (by rw [wb_length]; omega), wb_length]
            rw [List.set_append_right _ _ (by omega)]
            simp
          rw [hw] at E3
          rw [List.append_assoc] at E3
          exact E3.sub s1
        · rename_i hEq
          cases hEq
        · exact Po.elim
      | ex C' fs ps =>
        rw [e2] at Po
        split at Po
        · rename_i hEq
          cases hEq
        · rename_i D' fs' p0 ps' hEq
          cases hEq
          intro dO H' ws hps E1 xa
          refine Po dO H' ws ?_ xa
          have E0 : ER K F' ((V.ref x :: vs).map some) H' (p0 :: ps') ((.non, .non) :: (xds fs).zip ws) := by
            obtain ⟨Lv, _, k⟩ := E1.opn
            exact k H' _ Grow.refl fun q hq => (List.mem_cons.mp hq).elim (fun z => .inr (by rw [z]; exact rfl)) .inl
          have E2 := back H' (p0 :: ps') (.val .non) .non _ hps (ER.thaw E0)
          have pinl : ∀ q ∈ S.F.pn, q.1 < (en ++ S.xo).length := fun q hq => by
            have := (fi.pin q hq).1
            have := fi.len
            simp only [List.length_append]; omega
          have E3 := ER.drop E2 (fun q hq => by
            rw [wb_length]
            have := pinl q hq
            simp only [List.length_append] at this ⊢; omega)
          have hw : wb ((en ++ S.xo) ++ [some (O.fl (.ob C [] []))]) (some (en.length + S.xo.length) :: as.map arS) (p0 :: ps') = (wb en (as.map arS) ps' ++ S.xo) ++ [p0] := by
            show (wb ((en ++ S.xo) ++ [some (O.fl (.ob C [] []))]) (as.map arS) ps').set (en.length + S.xo.length) p0 = _
            rw [List.append_assoc, wb_app ltn, List.set_append_right _ _ (by rw [wb_length]; omega), wb_length]
            rw [List.set_append_right _ _ (by omega)]
            simp
          rw [hw] at E3
          have E4 := ER.drop E3 (fun q hq => by
            have := pinl q hq
            simp only [List.length_append, wb_length] at this ⊢; exact this)
          exact E4.sub fun q hq => (List.mem_append.mp hq).elim (fun z => List.mem_append_left _ z) fun z => List.mem_append_right _ (s1 q z)
        · exact Po.elim
    · rw [if_neg lt] at Po; exact Po.elim
theorem makeRun {W : WX} {C : Addr} {F : Fn} {Q : VK} {S : Su} {σ : L2.St} {H : Hp} {en : En} {tmp : List (D × V)} {as : List AR} {vs : List V} (fi : Fine n P S en) (J : Stt K S σ H en tmp) (hs : Holds σ tmp as vs) (s1 : ∀ q ∈ S.tmp, q ∈ tmp)
    (Po : PoF K S W σ Q (match arOs en as with
      | none => .bad
      | some os => if lent (as.map (arL en)) = true then match F (.fl (.ob C [] []) :: os) with
        | .ok (.val .non) (some o :: ps) => .ok o (wb en (as.map (arL en)) ps)
        | .ex D fs (_ :: ps) => .ex D fs (wb en (as.map (arL en)) ps)
        | _ => .bad
        else .bad)) {x dx : Addr} (hx : H x = none) (hdx : H dx = none) (hne : dx ≠ x) :
    SpD K F (.ref x :: vs) (upd (upd H dx (.own x)) x (.ins C dx [])) (fun v H2 => v = .non ∧ Q (.ref x) H2) (WE W σ) := by
  obtain ⟨tmp', s2, J2, h2⟩ := settle hs J
  refine makeRun0 fi J2 h2 (fun q hq => s2 q (s1 q hq)) ?_ hx hdx hne
  rw [arOs_N, List.map_map]
  exact Po
theorem df_make {C : Addr} {F : Fn} {f : En → Out (List AR)} (ha : DAs X Wf K n P es f) (mk : ∀ i t, PA (X i) es t → PE (X i) e (tMakeS C (SpD K F) (WE (Wf i)) t)) : DF X Wf K n P e (makeD C F f) := by
  obtain ⟨t, p, rd⟩ := ha.ex
  refine ⟨fun W => tMakeS C (SpD K F) (WE W) (t W), fun i => mk i _ (p i), fun W S σ H en Q fi I Po => rd W S σ H en _ fi I ?_⟩
  unfold makeD at Po
  cases q : f en with
  | ok as en1 =>
    rw [q] at Po
    exact fun vs H1 tmp1 s1 J h1 x dx hx hdx hne => makeRun (fi.to I J rfl) J h1 s1 Po hx hdx hne
  | ex C fs en' => rw [q] at Po; exact Po
  | bad => rw [q] at Po; exact Po
end
end Dn
/-! Errors raised and caught. -/
namespace Dn
open PySem PySem.Spec PyProof.Rows L2

/-- X(), an own class without __init__ -/
theorem pmk_own0 {X : Cx} {C : Addr} {bmB : List Value} {B newId initId : String} {x : Str} {p pos : Pos} (F : ExcBaseFacts B newId initId bmB) (q : PySem.W.excIn X.K C bmB newId = true) (gC : X.mg x = some (.ref C)) (kC : PySem.W.keepIn X.K (.ref C) = true) (r : Raises X (.ref C)) (hg : Gl X x)
    (hdb : (x == ("__debug__" : Str)) = false := by decide) : PMk X (.Call (.Name x p) [] [] pos) (fun _ H Q => Q (.ref C) none H) := by
  intro pins s σ H Q I h
  refine wpAny_Call_Name_kw (ld_glob I hg gC ?_ hdb)
  refine PySem.W.callWith_K0 I.kIn kC ?_
  show wpAny _ _ (call (.ref C) []) _ _ _
  obtain ⟨bm, N, nm, qn, bs, hdct, sn, sub, ab, col, dd, k0, k1, k2, k3, k5, mN, hC, hN, hni, T⟩ := exc_obj I.kIn q
  refine wpAny_call_exc_subT F T hC hN hni (fun h' e hm => ?_) (by show 0 ≤ sizeLine; rw [sizeLine_eq]; omega)
  exact mk_of I hm r h (I.hok.gone hm.new)

section
variable {ι : Type} {X : ι → Cx} {Wf : ι → WX} {K : PySem.W.Frag} {n : Nat} {P : Nat → Bool} {s : Stmt} {ss : List Stmt} {e a b : Expr} {es : List Expr} {pos : Pos}
theorem ds_raise0 {C : Addr} {x : Str} {p1 p2 : Pos} {bmB : List Value} {B newId initId : String} (hc : ∀ i, (X i).calm = true) (tk : ∀ i, Takes (X i) (Wf i)) (F : ExcBaseFacts B newId initId bmB) (q : ∀ i, PySem.W.excIn (X i).K C bmB newId = true) (gC : ∀ i, (X i).mg x = some (.ref C)) (kC : ∀ i, PySem.W.keepIn (X i).K (.ref C) = true) (r : ∀ i, Raises (X i) (.ref C)) (hg : ∀ i, Gl (X i) x)
    (hdb : (x == ("__debug__" : Str)) = false := by decide) : DS X Wf K n P (.Raise (some (.Call (.Name x p1) [] [] p2)) none pos) (fun en => .ex C none en) :=
  ⟨fun W => fun _ σ H => W (.ref C) none σ H, fun i => ps_raise (hc i) (tk i) (pmk_own0 F (q i) (gC i) (kC i) (r i) (hg i) hdb), fun W S σ H en B fi I Po => Po σ none H [] rfl I ⟨rfl, rfl⟩⟩
/-- the promise of an error's __init__ that keeps one thing -/
def spI1 (C : Addr) (f : Str) : Sp := fun vs H Q _ => ∃ ad v, vs = [.ref ad, v] ∧ H ad = some (exo ad C none) ∧ ∀ dx, H dx = none → dx ≠ ad → Q .non (upd (upd H dx (exd dx [(f, v)])) ad (exo ad C (some dx)))
def spI2 (C : Addr) (f g : Str) : Sp := fun vs H Q _ => ∃ ad v w, vs = [.ref ad, v, w] ∧ H ad = some (exo ad C none) ∧ ∀ dx, H dx = none → dx ≠ ad → Q .non (upd (upd (upd H dx (exd dx [(f, v)])) ad (exo ad C (some dx))) dx (exd dx [(g, w), (f, v)]))
theorem exo_heap {H : Hp} {ad dx C : Addr} {fs : List (Str × V)} {o : HO} (hn : H ad = none) (hd : dx ≠ ad) : upd (del (upd (upd (upd H ad (exo ad C none)) dx o) ad (exo ad C (some dx))) ad) dx (.xd fs) = upd H dx (.xd fs) := by
  funext b
  by_cases h1 : b = dx
  · subst h1; rw [upd_same, upd_same]
  · rw [upd_ne h1, upd_ne h1]
    by_cases h2 : b = ad
    · subst h2; rw [del_same, hn]
    · rw [del_ne h2, upd_ne h2, upd_ne h1, upd_ne h2]
theorem exo_heap2 {H : Hp} {ad dx C : Addr} {fs : List (Str × V)} {o o2 : HO} (hn : H ad = none) (hd : dx ≠ ad) : upd (del (upd (upd (upd (upd H ad (exo ad C none)) dx o) ad (exo ad C (some dx))) dx o2) ad) dx (.xd fs) = upd H dx (.xd fs) := by
  funext b
  by_cases h1 : b = dx
  · subst h1; rw [upd_same, upd_same]
  · rw [upd_ne h1, upd_ne h1]
    by_cases h2 : b = ad
    · subst h2; rw [del_same, hn]
    · rw [del_ne h2, upd_ne h1, upd_ne h2, upd_ne h1, upd_ne h2]
def raise1D (C : Addr) (f : Str) (g : En → Out (List AR)) : En → Out Fl := fun en => (g en).bind fun as en => match frzAs en as with
  | some [d] => .ex C (some ([f], [d])) en
  | _ => .bad
theorem ds_raise1 {C : Addr} {f : Str} {g : En → Out (List AR)} (hc : ∀ i, (X i).calm = true) (tk : ∀ i, Takes (X i) (Wf i)) (ha : DAs X Wf K n P es g) (mk : ∀ i t, PA (X i) es t → PMk (X i) e (tMkO C (spI1 C f) [] t)) :
    DS X Wf K n P (.Raise (some e) none pos) (raise1D C f g) := by
  obtain ⟨t, p, rd⟩ := ha.ex
  refine ⟨fun W => fun _ σ H => tMkO C (spI1 C f) [] (t W) σ H fun cls d H' => W cls d σ H', fun i => ps_raise (hc i) (tk i) (mk i _ (p i)), fun W S σ H en B fi I Po => rd W S σ H en _ fi I ?_⟩
  unfold raise1D at Po
  cases q : g en with
  | ok as en1 =>
    rw [q] at Po
    intro vs H1 tmp1 s1 J h1
    have Po : PoS K S W σ B (match frzAs en1 as with | some [d] => .ex C (some ([f], [d])) en1 | _ => .bad) := Po
    split at Po
    · rename_i d qv
      obtain ⟨Lv, op, k⟩ := ER.opn J
      obtain ⟨v, ws, ev, rv, ew⟩ := op.argsF h1 qv
      have ew : ws = [] := ew
      subst ew; subst ev
      refine ⟨by simp, fun ad hn => ⟨ad, v, rfl, upd_same, fun dx hdx hne => ⟨rfl, dx, [(f, v)], upd_same, by rw [upd_ne hne, upd_same], by rw [upd_ne hne] at hdx; exact hdx, ?_⟩⟩⟩
      have hd0 : H1 dx = none := by rw [upd_ne hne] at hdx; exact hdx
      rw [exo_heap hn hne]
      have gr : Grow H1 (upd H1 dx (.xd [(f, v)])) := Grow.upd hd0
      refine Po σ (some dx) _ [v] rfl ?_ ⟨rfl, rfl, dx, rfl, upd_same⟩
      exact k _ _ gr fun q hq => by
        rcases List.mem_cons.mp hq with rfl | hq
        · exact .inr (Rep.mono gr.keep _ _ rv)
        · exact .inl (s1 q hq)
    · exact Po.elim
  | ex C' fs en' => rw [q] at Po; exact Po.x
  | bad => rw [q] at Po; exact Po
def raise2D (C : Addr) (f1 f2 : Str) (g : En → Out (List AR)) : En → Out Fl := fun en => (g en).bind fun as en => match frzAs en as with
  | some [d, d'] => .ex C (some ([f2, f1], [d', d])) en
  | _ => .bad
theorem ds_raise2 {C : Addr} {f1 f2 : Str} {g : En → Out (List AR)} (hc : ∀ i, (X i).calm = true) (tk : ∀ i, Takes (X i) (Wf i)) (ha : DAs X Wf K n P es g) (mk : ∀ i t, PA (X i) es t → PMk (X i) e (tMkO C (spI2 C f1 f2) [] t)) :
    DS X Wf K n P (.Raise (some e) none pos) (raise2D C f1 f2 g) := by
  obtain ⟨t, p, rd⟩ := ha.ex
  refine ⟨fun W => fun _ σ H => tMkO C (spI2 C f1 f2) [] (t W) σ H fun cls d H' => W cls d σ H', fun i => ps_raise (hc i) (tk i) (mk i _ (p i)), fun W S σ H en B fi I Po => rd W S σ H en _ fi I ?_⟩
  unfold raise2D at Po
  cases q : g en with
  | ok as en1 =>
    rw [q] at Po
    intro vs H1 tmp1 s1 J h1
    have Po : PoS K S W σ B (match frzAs en1 as with | some [d, d'] => .ex C (some ([f2, f1], [d', d])) en1 | _ => .bad) := Po
    split at Po
    · rename_i d d' qv
      obtain ⟨Lv, op, k⟩ := ER.opn J
      obtain ⟨v, ws, ev, rv, w, ws', ew', rw', ew⟩ := op.argsF h1 qv
      have ew : ws' = [] := ew
      subst ew; subst ew'; subst ev
      refine ⟨by simp, fun ad hn => ⟨ad, v, w, rfl, upd_same, fun dx hdx hne => ⟨rfl, dx, [(f2, w), (f1, v)], by rw [upd_ne hne.symm, upd_same], upd_same, by rw [upd_ne hne] at hdx; exact hdx, ?_⟩⟩⟩
      have hd0 : H1 dx = none := by rw [upd_ne hne] at hdx; exact hdx
      rw [exo_heap2 hn hne]
      have gr : Grow H1 (upd H1 dx (.xd [(f2, w), (f1, v)])) := Grow.upd hd0
      refine Po σ (some dx) _ [w, v] rfl ?_ ⟨rfl, rfl, dx, rfl, upd_same⟩
      exact k _ _ gr fun q hq => by
        rcases List.mem_cons.mp hq with rfl | hq
        · exact .inr (Rep.mono gr.keep _ _ rw')
        · rcases List.mem_cons.mp hq with rfl | hq
          · exact .inr (Rep.mono gr.keep _ _ rv)
          · exact .inl (s1 q hq)
    · exact Po.elim
  | ex C' fs en' => rw [q] at Po; exact Po.x
  | bad => rw [q] at Po; exact Po

/-! ### try -/
structure TrI {ι : Type} (X : ι → Cx) where
  i : ι
  W : WX
  pn : List (Addr × Obj)
  xe : Value → Shared → Prop
  tk : Takes ((X i).tr pn xe) W
  po : PassesOwn (model (X i).prog (X i).w) (X i).A (X i).env xe
abbrev trF (X : ι → Cx) : TrI X → Cx := fun j => (X j.i).tr j.pn j.xe
abbrev trW (X : ι → Cx) : TrI X → WX := fun j => j.W
structure SuI (ι : Type) where
  i : ι
  a : Addr
  oe : Obj
  cls : Value
  d : Option Addr
  pn : List (Addr × Obj)
  hz : Zc cls d oe
  hf : ∃ vs, oe.data = .fields vs
abbrev suF (X : ι → Cx) : SuI ι → Cx := fun j => (X j.i).suite j.a ((j.a, j.oe) :: j.pn)
/-- what a clause takes: of a class, whether it is its -/
abbrev Clause := (Addr → Option Bool) × (En → Out Fl)
def hdl : List Clause → Addr → Xf → En → Out Fl
  | [], C, fs, en => .ex C fs en
  | (m, h) :: r, C, fs, en => match m C with
    | some true => match h en with
      | .ok fl en' => .ok fl en'
      | _ => .bad
    | some false => hdl r C fs en
    | none => .bad
def tryD (g : En → Out Fl) (cs : List Clause) : En → Out Fl := fun en => match g en with
  | .ex C fs en' => hdl cs C fs en'
  | o => o
/-- the clauses and what they do -/
inductive DHs (X : ι → Cx) (K : PySem.W.Frag) (n : Nat) (P : Nat → Bool) : List ExceptHandler → List Clause → Prop
  | nil : DHs X K n P [] []
  | cons {x : Str} {c : Value} {b₀ : Stmt} {suite : List Stmt} {np pos' : Pos} {hds : List ExceptHandler} {m : Addr → Option Bool} {h : En → Out Fl} {r : List Clause} (hc : ∀ i, Names (X i) x c) (hm : ∀ C b, m C = some b → PySem.W.exmOne K (.ref C) c = some b)
      (hs : DSs (suF X) (fun _ => W0) K n P (b₀ :: suite) h) (hr : DHs X K n P hds r) : DHs X K n P (.ExceptHandler (some (.Name x np)) none (b₀ :: suite) pos' :: hds) ((m, h) :: r)
theorem DHs.ok {hds : List ExceptHandler} {cs : List Clause} (h : DHs X K n P hds cs) : ∃ l : List (Value × (Addr → Value → Option Addr → TS)), (∀ i, HdsOk (X i) hds l) ∧
    ∀ (Wout : WX) (S : Su) (B : Ends) σ C fs en dO H ws, Fine n P S en → Stt K S σ H en ((xds fs).zip ws ++ S.tmp) → Xat H fs dO ws → PoS K S Wout σ B (hdl cs C fs en) → wMany K Wout B l (.ref C) dO σ H := by
  induction h with
  | nil => exact ⟨[], fun _ => .nil, fun Wout S B σ C fs en dO H ws fi I xa Po => Po σ dO H ws rfl I xa⟩
  | @cons x c b₀ suite np pos' hds m h r hc hm hs hr ih =>
    obtain ⟨l, hl, rd⟩ := ih
    obtain ⟨t, p, r2⟩ := hs.ex
    refine ⟨(c, fun _ _ _ => t W0) :: l, fun i => .cons (hc i) (fun a oe cls d pn hz hf => p ⟨i, a, oe, cls, d, pn, hz, hf⟩) (hl i), fun Wout S B σ C fs en dO H ws fi I xa Po => ?_⟩
    unfold hdl at Po
    cases q : m C with
    | none => rw [q] at Po; exact Po.elim
    | some b =>
      rw [q] at Po
      refine ⟨b, hm C b q, fun eb a na => ?_, fun eb => ?_⟩
      · subst eb
        refine r2 W0 S σ H en B fi (ER.sub I fun q hq => List.mem_append_right _ hq) ?_
        cases q2 : h en with
        | ok fl en' =>
          simp only [q2] at Po
          cases fl with
          | nx => exact Po
          | bk => exact Po
          | ct => exact Po
          | rt o => exact Po
        | ex C' fs' en' => simp only [q2] at Po; exact Po.elim
        | bad => simp only [q2] at Po; exact Po.elim
      · subst eb
        exact rd Wout S B σ C fs en dO H ws fi I xa Po
theorem ds_try {body : List Stmt} {h₀ : ExceptHandler} {hds : List ExceptHandler} {g : En → Out Fl} {cs : List Clause} (hs : ∀ i, (X i).stack = (X i).env :: (X i).outer) (hf : ∀ i, (X i).env.frame = some (X i).env.locals) (hK : ∀ i, (X i).K = K) (tk : ∀ i, Takes (X i) (Wf i))
    (hb : DSs (trF X) (trW X) K n P body g) (hh : DHs X K n P (h₀ :: hds) cs) : DS X Wf K n P (.Try body (h₀ :: hds) [] [] pos) (tryD g cs) := by
  obtain ⟨t, p, r⟩ := hb.ex
  obtain ⟨l, hl, rd⟩ := hh.ok
  refine ⟨fun W => fun D σ H => t (wMany K W D l) D σ H, fun i => by
    have := ps_try_many (pos := pos) (hs i) (hf i) (tk i) (fun W pn xe tk po => p ⟨i, W, pn, xe, tk, po⟩) (hl i)
    rw [hK i] at this
    exact this, fun W S σ H en B fi I Po => r (wMany K W B l) S σ H en B fi I ?_⟩
  unfold tryD at Po
  cases q : g en with
  | ok fl en' =>
    rw [q] at Po
    cases fl with
    | nx => exact Po
    | bk => exact Po
    | ct => exact Po
    | rt o => exact Po
  | bad => rw [q] at Po; exact Po
  | ex C fs en' =>
    rw [q] at Po
    intro σ' dO H' ws l' J xa
    have fj : Fine n P S en' := fi.to I J l'
    exact rd W S B σ' C fs en' dO H' ws fj J xa (PoS.len Po l')

/-! ### except C as n: return (.., n.f, ..) -/
/-- the suite's items: written texts, and fields of the error at slot i -/
structure DXs (X : ι → Cx) (i : Nat) (C : Addr) (es : List Expr) (g : List Str → List D → Option (List D)) : Prop where
  ex : ∃ t : Addr → Value → Option Addr → TA, (∀ j : SuI ι, PA (suF X j) es (t j.a j.cls j.d)) ∧ ∀ (K : PySem.W.Frag) (Lv : Addr → Prop) (a : Addr) (d : Addr) (σ : L2.St) (H : Hp) (ns : List Str) (ds : List D) (vs : List V) (out : List D) (Q : List V → Hp → Prop),
    σ[i]? = some (some (.ref a)) → H d = some (.xd (ns.zip vs)) → RepL K H Lv ds vs → g ns ds = some out → (∀ ws, RepL K H Lv out ws → Q ws H) → t a (.ref C) (some d) σ H Q
theorem dxs_nil {i : Nat} {C : Addr} : DXs X i C [] (fun _ _ => some []) := ⟨fun _ _ _ => tNil, fun _ => pa_nil, fun K Lv a d σ H ns ds vs out Q e1 e2 e3 e4 q => by cases e4; exact q [] rfl⟩
theorem dxs_str {i : Nat} {C : Addr} {x : Str} {j : Nat} {p1 : Pos} {g : List Str → List D → Option (List D)} (h : DXs X i C es g) (hz : x.length ≤ sizeLine := by decide +kernel)
    (st : ∀ k, starEach (.Constant (.str x) j p1 :: es) (suF X k).env = (false, eval (.Constant (.str x) j p1) (suF X k).env) :: starEach es (suF X k).env := by intro _; rfl) :
    DXs X i C (.Constant (.str x) j p1 :: es) (fun ns ds => (g ns ds).map (.str x :: ·)) := by
  obtain ⟨t, p, r⟩ := h.ex
  refine ⟨fun a c d => tCons (tC (.str x)) (t a c d), fun k => pa_cons pe_str (p k) (st k), fun K Lv a d σ H ns ds vs out Q e1 e2 e3 e4 q => ?_⟩
  cases q2 : g ns ds with
  | none => rw [q2] at e4; cases e4
  | some o2 =>
    rw [q2] at e4
    cases e4
    exact r K Lv a d σ H ns ds vs o2 _ e1 e2 e3 q2 fun ws rw' => q (.str x :: ws) ⟨.str x, ws, rfl, ⟨rfl, hz⟩, rw'⟩
theorem dxs_fld {i : Nat} {C : Addr} {f x : Str} {p1 p2 : Pos} {g : List Str → List D → Option (List D)} (T : ∀ k, XfC (X k).K C) (hno : ∀ k, PySem.W.findIn (X k).K (.ref C) f = some none) (pn : ∀ k, PE (suF X k) (.Name x p1) (tVar i)) (h : DXs X i C es g)
    (hb : ∀ k, attributeBase (.Name x p1) f (suF X k).env (eval (.Name x p1) (suF X k).env) = eval (.Name x p1) (suF X k).env := by intro _; rfl)
    (st : ∀ k, starEach (.Attribute (.Name x p1) f p2 :: es) (suF X k).env = (false, eval (.Attribute (.Name x p1) f p2) (suF X k).env) :: starEach es (suF X k).env := by intro _; rfl) :
    DXs X i C (.Attribute (.Name x p1) f p2 :: es) (fun ns ds => (look f ns ds).bind fun d => (g ns ds).map (d :: ·)) := by
  obtain ⟨t, p, r⟩ := h.ex
  refine ⟨fun a c d => tCons (tXf a c d C f (tVar i)) (t a c d), fun k => pa_cons (pe_xf (T k.i) (hno k.i) k.hz k.hf (pn k) (hb k)) (p k) (st k), fun K Lv a d σ H ns ds vs out Q e1 e2 e3 e4 q => ?_⟩
  obtain ⟨dd, q1, e4⟩ := bind_some e4
  cases q2 : g ns ds with
  | none => rw [q2] at e4; cases e4
  | some o2 =>
    rw [q2] at e4
    cases e4
    obtain ⟨v, hl, rv⟩ := look_zip e3 q1
    exact ⟨_, e1, rfl, rfl, d, _, v, rfl, e2, hl, r K Lv a d σ H ns ds vs o2 _ e1 e2 e3 q2 fun ws rw' => q (v :: ws) ⟨v, ws, rfl, rv, rw'⟩⟩
def hdlR (m : Addr → Option Bool) (C : Addr) (h : List Str → List D → Option (List D)) (C' : Addr) (fs : Xf) (en' : En) : Out Fl := match m C' with
  | some true => if C' = C then match fs with
    | some (ns, ds) => match h ns ds with
      | some out => if out.length ≤ 1000 then .ok (.rt (.val (.tup out))) en' else .bad
      | none => .bad
    | none => .bad
    else .bad
  | some false => .ex C' fs en'
  | none => .bad
def tryR (g : En → Out Fl) (m : Addr → Option Bool) (C : Addr) (h : List Str → List D → Option (List D)) : En → Out Fl := fun en => match g en with
  | .ex C' fs en' => hdlR m C h C' fs en'
  | o => o
theorem ds_tryR {i : Nat} {x nm : Str} {C : Addr} {np p1 p2 p3 : Pos} {kk : Nat} {body : List Stmt} {g : En → Out Fl} {m : Addr → Option Bool} {h : List Str → List D → Option (List D)} (hs : ∀ i, (X i).stack = (X i).env :: (X i).outer) (hf : ∀ i, (X i).env.frame = some (X i).env.locals) (hK : ∀ i, (X i).K = K) (tk : ∀ i, Takes (X i) (Wf i))
    (hN : ∀ i, (X i).N.Nodup) (hi : ∀ k, (X k).N[i]? = some nm) (hln : ∀ k, (X k).env.kindOf nm = some .local) (hc : ∀ i, Names (X i) x (.ref C)) (hin : i < n) (hP : P i = false)
    (hm : ∀ C' b, m C' = some b → PySem.W.exmOne K (.ref C') (.ref C) = some b) (hb : DSs (trF X) (trW X) K n P body g) (hx : DXs X i C es h) :
    DS X Wf K n P (.Try body [.ExceptHandler (some (.Name x np)) (some nm) [.Return (some (.Tuple es kk p1)) p2] p3] [] [] pos) (tryR g m C h) := by
  obtain ⟨t, p, r⟩ := hb.ex
  obtain ⟨tx, px, rx⟩ := hx.ex
  refine ⟨fun W => fun D σ H => t (wAs K (.ref C) i (fun a c d => tRet (tTup (tx a c d))) W D) D σ H, fun k => by
    have := ps_try_as (pos := pos) (pos' := p3) (np := np) (hs k) (hf k) (hN k) (hi k) (hln k) (hc k) (tk k) (fun W pn xe tk po => p ⟨k, W, pn, xe, tk, po⟩)
      (ts := fun a c d => tRet (tTup (tx a c d))) (fun a oe cls d pn hz hf => pss_one (ps_ret (pos := p2) (pe_tup (pos := p1) (x1 := kk) (px ⟨k, a, oe, cls, d, pn, hz, hf⟩))))
    rw [hK k] at this
    exact this, fun W S σ H en B fi I Po => r (wAs K (.ref C) i (fun a c d => tRet (tTup (tx a c d))) W B) S σ H en B fi I ?_⟩
  unfold tryR at Po
  cases q : g en with
  | ok fl en' =>
    rw [q] at Po
    cases fl with
    | nx => exact Po
    | bk => exact Po
    | ct => exact Po
    | rt o => exact Po
  | bad => rw [q] at Po; exact Po
  | ex C' fs en' =>
    rw [q] at Po
    intro σ' dO H' ws l' J xa
    have fj : Fine n P S en' := fi.to I J l'
    have Pq : PoS K S W σ B (hdlR m C h C' fs en') := Po
    clear Po
    unfold hdlR at Pq
    cases qm : m C' with
    | none => rw [qm] at Pq; exact Pq.elim
    | some b =>
      rw [qm] at Pq
      refine ⟨b, hm C' b qm, fun eb a na => ?_, fun eb => ?_⟩
      · subst eb
        simp only at Pq
        by_cases c : C' = C
        · rw [if_pos c] at Pq
          subst c
          cases fs with
          | none => exact Pq.elim
          | some f =>
            obtain ⟨ns, ds⟩ := f
            simp only at Pq
            cases qo : h ns ds with
            | none => rw [qo] at Pq; exact Pq.elim
            | some out =>
              rw [qo] at Pq
              simp only at Pq
              by_cases hl : out.length ≤ 1000
              · rw [if_pos hl] at Pq
                obtain ⟨lw, ln, d, ed, hd⟩ := xa
                subst ed
                obtain ⟨Lv, op, k⟩ := ER.opn J
                have lw : ws.length = ds.length := lw
                have rl : RepL K H' Lv ds ws := RepL.of lw fun j d v e1 e2 => op.tm (d, v) (List.mem_append_left _ (by
                  refine List.mem_iff_getElem?.mpr ⟨j, ?_⟩
                  show ((xds (some (ns, ds))).zip ws)[j]? = some (d, v)
                  exact List.getElem?_zip_eq_some.mpr ⟨e1, e2⟩))
                have hi' : i < σ'.length := by rw [Stt.len J, fj.len]; exact hin
                refine rx K Lv a d _ H' ns ds ws out _ (by rw [List.getElem?_set_self hi']) hd rl qo fun us ru => ⟨by rw [ru.length]; exact le1000 hl, fun p hp => ?_⟩
                have gr := Grow.upd (u := .tup us) hp
                have J2 : Stt K S σ' (upd H' p (.tup us)) en' ((.tup out, .ref p) :: S.tmp) := k _ _ gr fun q hq => by
                  rcases List.mem_cons.mp hq with rfl | hq
                  · exact .inr ⟨p, us, rfl, upd_same, le1000 hl, ru.mono gr.keep⟩
                  · exact .inl (List.mem_append_right _ hq)
                have J3 := ER.thaw J2
                rw [List.append_assoc, List.append_assoc] at J3
                exact Pq (.ref p) σ' _ l' J3
              · rw [if_neg hl] at Pq; exact Pq.elim
        · rw [if_neg c] at Pq; exact Pq.elim
      · subst eb
        exact Pq σ' dO H' ws l' J xa
end
end Dn
/-! The operations upon data. -/
namespace Dn
open PySem PySem.Spec PyProof.Rows L2

section
variable {K : PySem.W.Frag}
theorem Ok2.or {r r' : R2} {g g' : D → D → Option D} (h : Ok2 K r g) (h' : Ok2 K r' g') : Ok2 K (fun x y H Q => r x y H Q ∨ r' x y H Q) (fun d e => (g d e).or (g' d e)) := fun H Lv x y d e c Q mu r1 r2 ec q => by
  cases z : g d e with
  | some c' => simp [z] at ec; subst ec; exact .inl (h H Lv x y d e c' Q mu r1 r2 z q)
  | none => simp [z] at ec; exact .inr (h' H Lv x y d e c Q mu r1 r2 ec q)
theorem OkN.or {r r' : List V → Hp → VK → Prop} {g g' : List D → Option D} (h : OkN K r g) (h' : OkN K r' g') : OkN K (fun x H Q => r x H Q ∨ r' x H Q) (fun d => (g d).or (g' d)) := fun H Lv x d c Q mu r1 ec q => by
  cases z : g d with
  | some c' => simp [z] at ec; subst ec; exact .inl (h H Lv x d c' Q mu r1 z q)
  | none => simp [z] at ec; exact .inr (h' H Lv x d c Q mu r1 ec q)
theorem CallR.or {X : Cx} {f : Value} {r r' : List V → Hp → VK → Prop} (h : CallR X f r) (h' : CallR X f r') : CallR X f (fun x H Q => r x H Q ∨ r' x H Q) := fun pins s σ H xs us Q I rr q => q.elim (h pins s σ H xs us Q I rr) (h' pins s σ H xs us Q I rr)

/-! ### ints -/
def ii (f : Int → Int → Option D) : D → D → Option D
  | .int i, .int j => f i j
  | _, _ => none
theorem ii_eq {f : Int → Int → Option D} {d e c : D} (h : ii f d e = some c) : ∃ i j, d = .int i ∧ e = .int j ∧ f i j = some c := by
  unfold ii at h
  split at h
  · exact ⟨_, _, rfl, rfl, h⟩
  · cases h
theorem ok_rI {C : Int → Int → Prop} {g : Int → Int → Int} {f : Int → Int → Option D} (hf : ∀ i j c, f i j = some c → C i j ∧ c = .int (g i j)) : Ok2 K (rI C fun i j => .int (g i j)) (ii f) := fun H Lv x y d e c Q mu r1 r2 ec q => by
  obtain ⟨i, j, rfl, rfl, ec⟩ := ii_eq ec
  obtain ⟨hc, rfl⟩ := hf i j c ec
  exact ⟨i, j, r1, r2, hc, q _ H Grow.refl rfl⟩
theorem ok_rI0 {g : Int → Int → Int} : Ok2 K (rI0 fun i j => .int (g i j)) (ii fun i j => some (.int (g i j))) := fun H Lv x y d e c Q mu r1 r2 ec q => by
  obtain ⟨i, j, rfl, rfl, ec⟩ := ii_eq ec
  cases ec
  exact ⟨i, j, r1, r2, q _ H Grow.refl rfl⟩
theorem ok_rI0b {g : Int → Int → Bool} : Ok2 K (rI0 fun i j => .bl (g i j)) (ii fun i j => some (.bl (g i j))) := fun H Lv x y d e c Q mu r1 r2 ec q => by
  obtain ⟨i, j, rfl, rfl, ec⟩ := ii_eq ec
  cases ec
  exact ⟨i, j, r1, r2, q _ H Grow.refl rfl⟩
def addI : D → D → Option D := ii fun i j => some (.int (i + j))
def subI : D → D → Option D := ii fun i j => some (.int (i - j))
def mulI : D → D → Option D := ii fun i j => if (-(2 ^ 64) < i ∧ i < 2 ^ 64) ∨ (-(2 ^ 64) < j ∧ j < 2 ^ 64) then some (.int (i * j)) else none
def divI : D → D → Option D := ii fun i j => if 0 < j ∧ j < 18446744073709551616 then some (.int (i / j)) else none
def modI : D → D → Option D := ii fun i j => if 0 < j then some (.int (i % j)) else none
def powI : D → D → Option D := ii fun i j => if 0 ≤ j ∧ j ≤ 1000000 ∧ i.natAbs < 2 ^ 64 then some (.int (i ^ j.toNat)) else none
def shlI : D → D → Option D := ii fun i j => if 0 ≤ j ∧ j ≤ 1000000 ∧ i.natAbs < 2 ^ 64 then some (.int (i * 2 ^ j.toNat)) else none
theorem ok_mul : Ok2 K (rI CMul fun i j => .int (i * j)) mulI := ok_rI fun i j c h => by
  by_cases hc : (-(2 ^ 64) < i ∧ i < 2 ^ 64) ∨ (-(2 ^ 64) < j ∧ j < 2 ^ 64)
  · rw [if_pos hc] at h; cases h; exact ⟨hc, rfl⟩
  · rw [if_neg hc] at h; cases h
theorem ok_div : Ok2 K (rI CDivW fun i j => .int (i / j)) divI := ok_rI fun i j c h => by
  by_cases hc : 0 < j ∧ j < 18446744073709551616
  · rw [if_pos hc] at h; cases h; exact ⟨wide_div (b := 64) hc.1 (by have := hc.1; have := hc.2; omega) (by decide) (by decide), rfl⟩
  · rw [if_neg hc] at h; cases h
theorem ok_mod : Ok2 K (rI (fun _ j => 0 < j) fun i j => .int (i % j)) modI := ok_rI fun i j c h => by
  by_cases hc : 0 < j
  · rw [if_pos hc] at h; cases h; exact ⟨hc, rfl⟩
  · rw [if_neg hc] at h; cases h
theorem ok_pow : Ok2 K (rI CPow fun i j => .int (i ^ j.toNat)) powI := ok_rI fun i j c h => by
  by_cases hc : 0 ≤ j ∧ j ≤ 1000000 ∧ i.natAbs < 2 ^ 64
  · rw [if_pos hc] at h; cases h; exact ⟨hc, rfl⟩
  · rw [if_neg hc] at h; cases h
theorem ok_shl : Ok2 K (rI CPow fun i j => .int (i * 2 ^ j.toNat)) shlI := ok_rI fun i j c h => by
  by_cases hc : 0 ≤ j ∧ j ≤ 1000000 ∧ i.natAbs < 2 ^ 64
  · rw [if_pos hc] at h; cases h; exact ⟨hc, rfl⟩
  · rw [if_neg hc] at h; cases h
def ltI : D → D → Option D := ii fun i j => some (.bl (decide (i < j)))
def leI : D → D → Option D := ii fun i j => some (.bl (decide (i ≤ j)))
def gtI : D → D → Option D := ii fun i j => some (.bl (decide (j < i)))
def geI : D → D → Option D := ii fun i j => some (.bl (decide (j ≤ i)))
def negI : D → Option D
  | .int i => some (.int (-i))
  | _ => none
theorem ok_neg : Ok1 K (rU fun i => .int (-i)) negI := fun H Lv x d c Q mu r ec q => by
  unfold negI at ec
  split at ec
  · cases ec; exact ⟨_, r, q _ H Grow.refl rfl⟩
  · cases ec

/-! ### texts -/
def addS : D → D → Option D
  | .str x, .str y => if x.length + y.length ≤ 16777216 then some (.str (x ++ y)) else none
  | _, _ => none
theorem len_app (x y : Str) : (x ++ y).length = x.length + y.length := by
  show (x ++ y).cps.size = x.cps.size + y.cps.size
  have : (x ++ y).cps = x.cps ++ y.cps := rfl
  rw [this, Array.size_append]
theorem ok_addS : Ok2 K (fun x y H Q => ∃ i j, x = .str i ∧ y = .str j ∧ i.length + j.length ≤ sizeLine ∧ Q (.str (i ++ j)) H) addS := fun H Lv x y d e c Q mu r1 r2 ec q => by
  unfold addS at ec
  split at ec
  · rename_i a b
    by_cases hz : a.length + b.length ≤ 16777216
    · rw [if_pos hz] at ec
      cases ec
      refine ⟨a, b, r1.1, r2.1, by rw [sizeLine_eq]; exact hz, q _ H Grow.refl ⟨rfl, ?_⟩⟩
      rw [len_app, sizeLine_eq]; exact hz
    · rw [if_neg hz] at ec; cases ec
  · cases ec
/-- one sign within a text -/
def inSg : D → D → Option D
  | .str x, .str z => match x.cps.toList with
    | [c] => some (.bl (decide (c ∈ z.cps.toList)))
    | _ => none
  | _, _ => none
theorem str_one {x : Str} {c : Nat} (h : x.cps.toList = [c]) : x = ⟨#[c]⟩ := by
  cases x with
  | mk a => cases a with
    | mk l => simp at h; rw [h]
theorem ok_inSg : Ok2 K (fun x y H Q => ∃ (c : Nat) (z : Str), x = .str ⟨#[c]⟩ ∧ y = .str z ∧ Q (.bl (decide (c ∈ z.cps.toList))) H) inSg := fun H Lv x y d e c Q mu r1 r2 ec q => by
  unfold inSg at ec
  split at ec
  · split at ec
    · rename_i h
      cases ec; exact ⟨_, _, by rw [← str_one h]; exact r1.1, r2.1, q _ H Grow.refl rfl⟩
    · cases ec
  · cases ec

/-! ### lists and tuples -/
def addL : D → D → Option D
  | .lst xs, .lst ys => if xs.length + ys.length ≤ 16777216 then some (.lst (xs ++ ys)) else none
  | _, _ => none
theorem ok_addL : Ok2 K rCat addL := fun H Lv x y d e c Q mu r1 r2 ec q => by
  unfold addL at ec
  split at ec
  · rename_i xs ys
    by_cases hz : xs.length + ys.length ≤ 16777216
    · rw [if_pos hz] at ec
      cases ec
      obtain ⟨a, vs, rfl, ha, z1, h1⟩ := r1
      obtain ⟨b, ws, rfl, hb, z2, h2⟩ := r2
      refine ⟨a, b, vs, ws, rfl, rfl, ha, hb, by rw [h1.length, h2.length, sizeLine_eq]; exact hz, fun p hp => q _ _ (Grow.upd hp) ?_⟩
      refine ⟨p, vs ++ ws, rfl, fun z => ?_, upd_same, by rw [List.length_append, sizeLine_eq]; exact hz, (h1.append h2).mono (Grow.upd hp).keep⟩
      have := mu p z
      rw [hp] at this; exact this
    · rw [if_neg hz] at ec; cases ec
  · cases ec
def addT : D → D → Option D
  | .tup xs, .tup ys => if xs.length + ys.length ≤ 16777216 then some (.tup (xs ++ ys)) else none
  | _, _ => none
theorem ok_addT : Ok2 K (rCatA K) addT := fun H Lv x y d e c Q mu r1 r2 ec q => by
  unfold addT at ec
  split at ec
  · rename_i xs ys
    by_cases hz : xs.length + ys.length ≤ 16777216
    · rw [if_pos hz] at ec
      cases ec
      obtain ⟨a, vs, rfl, ha, z1, h1⟩ := r1
      obtain ⟨b, ws, rfl, hb, z2, h2⟩ := r2
      have l1 := h1.length
      have l2 := h2.length
      refine ⟨a, b, vs, ws, rfl, rfl, .inl (.inl ha), .inl (.inl hb), by rw [l1, l2, sizeLine_eq]; exact hz, fun e1 => ?_, fun e1 e2 => ?_, fun e1 e2 p hp => q _ _ (Grow.upd hp) ?_⟩
      · subst e1
        have : xs = [] := List.length_eq_zero_iff.mp l1.symm
        subst this
        exact q _ H Grow.refl ⟨b, ws, rfl, hb, z2, h2⟩
      · subst e2
        have : ys = [] := List.length_eq_zero_iff.mp l2.symm
        subst this
        refine q _ H Grow.refl ?_
        rw [List.append_nil]
        exact ⟨a, vs, rfl, ha, z1, h1⟩
      · exact ⟨p, vs ++ ws, rfl, upd_same, by rw [List.length_append, sizeLine_eq]; exact hz, (h1.append h2).mono (Grow.upd hp).keep⟩
    · rw [if_neg hz] at ec; cases ec
  · cases ec
theorem RepRs.one {H : Hp} {Lv : Addr → Prop} {d : D} {vs : List V} (h : RepRs K H Lv [d] vs) : ∃ v, vs = [v] ∧ RepR K H Lv d v := by
  obtain ⟨v, ws, e, r, z⟩ := h
  have z : ws = [] := z
  subst z
  exact ⟨v, e, r⟩
theorem RepRs.two {H : Hp} {Lv : Addr → Prop} {d e : D} {vs : List V} (h : RepRs K H Lv [d, e] vs) : ∃ v w, vs = [v, w] ∧ RepR K H Lv d v ∧ RepR K H Lv e w := by
  obtain ⟨v, ws, e, r, h⟩ := h
  obtain ⟨w, rfl, r2⟩ := RepRs.one h
  exact ⟨v, w, e, r, r2⟩
/-- of one thing -/
def on1 (g : D → Option D) : List D → Option D
  | [d] => g d
  | _ => none
theorem on1_eq {g : D → Option D} {ds : List D} {c : D} (h : on1 g ds = some c) : ∃ d, ds = [d] ∧ g d = some c := by
  unfold on1 at h
  split at h
  · exact ⟨_, rfl, h⟩
  · cases h
def lenS : D → Option D
  | .lst xs => some (.int xs.length)
  | .sc xs => some (.int xs.length)
  | .tup xs => some (.int xs.length)
  | .str x => some (.int x.length)
  | _ => none
theorem ok_len : OkN K (fun xs H Q => ∃ x n, xs = [x] ∧ LenV K x H n ∧ Q (.int n) H) (on1 lenS) := fun H Lv vs ds c Q mu rr ec q => by
  obtain ⟨d, rfl, e1⟩ := on1_eq ec
  clear ec
  have ec := e1
  clear e1
  obtain ⟨v, rfl, r⟩ := rr.one
  unfold lenS at ec
  split at ec
  · rename_i xs
    cases ec
    obtain ⟨a, ws, rfl, ha, _, h⟩ := r
    exact ⟨_, _, rfl, .inl ⟨ws, .inl (.inl ha), rfl⟩, by rw [h.length]; exact q _ H Grow.refl rfl⟩
  · rename_i xs
    cases ec
    obtain ⟨a, rfl, ha, _⟩ := r
    exact ⟨_, _, rfl, .inl ⟨_, ha.sql, rfl⟩, by rw [List.length_map]; exact q _ H Grow.refl rfl⟩
  · rename_i xs
    cases ec
    obtain ⟨a, ws, rfl, ha, _, h⟩ := r
    exact ⟨_, _, rfl, .inr ⟨ws, (.inl (.inl ha)), rfl⟩, by rw [h.length]; exact q _ H Grow.refl rfl⟩
  · rename_i x
    cases ec
    obtain ⟨rfl, hz⟩ := r
    exact ⟨_, _, rfl, ⟨hz, rfl⟩, q _ H Grow.refl rfl⟩
  · cases ec
/-- xs[i] of a list, a tuple, a text -/
def ixG : D → D → Option D
  | .lst xs, .int i => atI xs i
  | .sc xs, .int i => (atI xs i).map .int
  | .tup xs, .int i => atI xs i
  | .str x, .int i => (atI x.cps.toList i).map fun c => .str ⟨#[c]⟩
  | _, _ => none
theorem atI_rep {H : Hp} {Lv : Addr → Prop} {ds : List D} {vs : List V} {i : Int} {d : D} (h : RepL K H Lv ds vs) (e : atI ds i = some d) : ∃ v, atI vs i = some v ∧ Rep K H Lv d v := by
  unfold atI at e ⊢
  obtain ⟨j, e1, e2⟩ := bind_some e
  obtain ⟨v, e3, r⟩ := h.get e2
  refine ⟨v, ?_, r⟩
  rw [h.length, e1]
  exact e3
theorem ok_ix : Ok2 K (rIx K) ixG := fun H Lv x y d e c Q mu r1 r2 ec q => by
  unfold ixG at ec
  split at ec
  · obtain ⟨a, vs, rfl, ha, _, h⟩ := r1
    obtain ⟨v, e1, r⟩ := atI_rep h ec
    exact .inl ⟨a, vs, _, v, rfl, r2, .inl (.inl ha), e1, q v H Grow.refl r⟩
  · rename_i xs i
    obtain ⟨a, rfl, ha, _⟩ := r1
    cases z : atI xs i with
    | none => rw [z] at ec; cases ec
    | some m =>
      rw [z] at ec
      cases ec
      refine .inl ⟨a, _, _, .int m, rfl, r2, ha.sql, ?_, q _ H Grow.refl rfl⟩
      unfold atI at z ⊢
      obtain ⟨j, e1, e2⟩ := bind_some z
      rw [List.length_map, e1]
      show (xs.map V.int)[j]? = _
      rw [List.getElem?_map, e2]; rfl
  · obtain ⟨a, vs, rfl, ha, _, h⟩ := r1
    obtain ⟨v, e1, r⟩ := atI_rep h ec
    exact .inr (.inl ⟨a, vs, _, v, rfl, r2, (.inl (.inl ha)), e1, q v H Grow.refl r⟩)
  · rename_i x i
    obtain ⟨rfl, hz⟩ := r1
    cases z : atI x.cps.toList i with
    | none => rw [z] at ec; cases ec
    | some m =>
      rw [z] at ec
      cases ec
      exact .inr (.inr ⟨x, i, m, rfl, r2, hz, z, q _ H Grow.refl ⟨rfl, by rw [sizeLine_eq]; show 1 ≤ 16777216; omega⟩⟩)
  · cases ec
def tupS : D → Option D
  | .lst xs => some (.tup xs)
  | .tup xs => some (.tup xs)
  | _ => none
theorem ok_tuple : OkN K (fun xs H Q => ∃ p ys, xs = [.ref p] ∧ ((SqL K H p ys ∧ ∀ l, H l = none → Q (.ref l) (upd H l (.tup ys))) ∨ (SqT K H p ys ∧ Q (.ref p) H))) (on1 tupS) := fun H Lv vs ds c Q mu rr ec q => by
  obtain ⟨d, rfl, e1⟩ := on1_eq ec
  clear ec
  have ec := e1
  clear e1
  obtain ⟨v, rfl, r⟩ := rr.one
  unfold tupS at ec
  split at ec
  · cases ec
    obtain ⟨a, ws, rfl, ha, hz, h⟩ := r
    exact ⟨a, ws, rfl, .inl ⟨.inl (.inl ha), fun l hl => q _ _ (Grow.upd hl) ⟨l, ws, rfl, upd_same, hz, h.mono (Grow.upd hl).keep⟩⟩⟩
  · cases ec
    obtain ⟨a, ws, rfl, ha, hz, h⟩ := r
    exact ⟨a, ws, rfl, .inr ⟨.inl (.inl ha), q _ H Grow.refl ⟨a, ws, rfl, ha, hz, h⟩⟩⟩
  · cases ec
def lstS : D → Option D
  | .lst xs => some (.lst xs)
  | .sc xs => some (.lst (xs.map .int))
  | .tup xs => some (.lst xs)
  | _ => none
theorem ok_list : OkNF K (fun xs H Q => ∃ p ys, xs = [.ref p] ∧ (SqL K H p ys ∨ SqT K H p ys) ∧ ∀ l, H l = none → Q (.ref l) (upd H l (.lst ys))) (on1 lstS) := fun H Lv vs ds c Q mu rr ec q => by
  obtain ⟨d, rfl, e1⟩ := on1_eq ec
  clear ec
  have ec := e1
  clear e1
  obtain ⟨v, rfl, r⟩ := rr.one
  unfold lstS at ec
  split at ec
  · cases ec
    obtain ⟨a, ws, rfl, ha, hz, h⟩ := r
    exact ⟨a, ws, rfl, .inl (.inl (.inl ha)), fun l hl => q _ _ hl ⟨hz, h⟩⟩
  · rename_i xs
    cases ec
    obtain ⟨a, rfl, ha, hz⟩ := r
    exact ⟨a, _, rfl, .inl ha.sql, fun l hl => q _ _ hl ⟨by rw [List.length_map]; exact hz, RepL.ints xs⟩⟩
  · cases ec
    obtain ⟨a, ws, rfl, ha, hz, h⟩ := r
    exact ⟨a, ws, rfl, .inr (.inl (.inl ha)), fun l hl => q _ _ hl ⟨hz, h⟩⟩
  · cases ec
def intS : D → Option D
  | .int i => some (.int i)
  | .bl k => some (.int (if k then 1 else 0))
  | _ => none
theorem ok_int : OkN K (fun xs H Q => (∃ i, xs = [.int i] ∧ Q (.int i) H) ∨ ∃ k, xs = [.bl k] ∧ Q (.int (if k then 1 else 0)) H) (on1 intS) := fun H Lv vs ds c Q mu rr ec q => by
  obtain ⟨d, rfl, e1⟩ := on1_eq ec
  clear ec
  have ec := e1
  clear e1
  obtain ⟨v, rfl, r⟩ := rr.one
  unfold intS at ec
  split at ec
  · cases ec; cases (show v = .int _ from r); exact .inl ⟨_, rfl, q _ H Grow.refl rfl⟩
  · cases ec; cases (show v = .bl _ from r); exact .inr ⟨_, rfl, q _ H Grow.refl rfl⟩
  · cases ec
def absS : D → Option D
  | .int i => some (.int (if i < 0 then -i else i))
  | _ => none
theorem ok_abs : OkN K (fun xs H Q => ∃ i, xs = [.int i] ∧ Q (.int (if i < 0 then -i else i)) H) (on1 absS) := fun H Lv vs ds c Q mu rr ec q => by
  obtain ⟨d, rfl, e1⟩ := on1_eq ec
  clear ec
  have ec := e1
  clear e1
  obtain ⟨v, rfl, r⟩ := rr.one
  unfold absS at ec
  split at ec
  · cases ec; cases (show v = .int _ from r); exact ⟨_, rfl, q _ H Grow.refl rfl⟩
  · cases ec
def max2 : List D → Option D
  | [.int i, .int j] => some (.int (if j > i then j else i))
  | _ => none
theorem ok_max2 : OkN K (fun xs H Q => ∃ i j, xs = [.int i, .int j] ∧ Q (.int (if j > i then j else i)) H) max2 := fun H Lv vs ds c Q mu rr ec q => by
  unfold max2 at ec
  split at ec
  · cases ec
    obtain ⟨v, w, rfl, r1, r2⟩ := rr.two
    cases (show v = .int _ from r1); cases (show w = .int _ from r2)
    exact ⟨_, _, rfl, q _ H Grow.refl rfl⟩
  · cases ec
/-- the ints of a list of ints -/
def intsOf : List D → Option (List Int)
  | [] => some []
  | .int i :: r => (intsOf r).map (i :: ·)
  | _ :: _ => none
theorem intsOf_eq : ∀ {ds : List D} {ns : List Int}, intsOf ds = some ns → ds = ns.map .int
  | [], _, h => by cases h; rfl
  | .int i :: r, _, h => by
    unfold intsOf at h
    cases z : intsOf r with
    | none => rw [z] at h; cases h
    | some m => rw [z] at h; cases h; rw [List.map_cons, ← intsOf_eq z]
  | .non :: _, _, h | .bl _ :: _, _, h | .str _ :: _, _, h | .ty _ :: _, _, h | .sc _ :: _, _, h | .lst _ :: _, _, h | .tup _ :: _, _, h | .dK _ _ :: _, _, h | .dT _ _ :: _, _, h | .ob _ _ _ :: _, _, h | .xc _ _ _ _ :: _, _, h => by cases h
theorem intsOf_map (ns : List Int) : intsOf (ns.map .int) = some ns := by
  induction ns with
  | nil => rfl
  | cons n r ih => rw [List.map_cons, intsOf, ih]; rfl
theorem RepL.intsV {H : Hp} {Lv : Addr → Prop} : ∀ {ns : List Int} {vs : List V}, RepL K H Lv (ns.map .int) vs → vs = ns.map V.int
  | [], _, h => h
  | n :: r, _, ⟨v, ws, e, rv, h⟩ => by
    have rv : v = .int n := rv
    rw [e, rv, RepL.intsV h]; rfl
def boolsOf : List D → Option (List Bool)
  | [] => some []
  | .bl i :: r => (boolsOf r).map (i :: ·)
  | _ :: _ => none
theorem boolsOf_eq : ∀ {ds : List D} {ns : List Bool}, boolsOf ds = some ns → ds = ns.map .bl
  | [], _, h => by cases h; rfl
  | .bl i :: r, _, h => by
    unfold boolsOf at h
    cases z : boolsOf r with
    | none => rw [z] at h; cases h
    | some m => rw [z] at h; cases h; rw [List.map_cons, ← boolsOf_eq z]
  | .non :: _, _, h | .int _ :: _, _, h | .str _ :: _, _, h | .ty _ :: _, _, h | .sc _ :: _, _, h | .lst _ :: _, _, h | .tup _ :: _, _, h | .dK _ _ :: _, _, h | .dT _ _ :: _, _, h | .ob _ _ _ :: _, _, h | .xc _ _ _ _ :: _, _, h => by cases h
theorem boolsOf_map (ns : List Bool) : boolsOf (ns.map .bl) = some ns := by
  induction ns with
  | nil => rfl
  | cons n r ih => rw [List.map_cons, boolsOf, ih]; rfl
theorem RepL.boolsV {H : Hp} {Lv : Addr → Prop} : ∀ {ns : List Bool} {vs : List V}, RepL K H Lv (ns.map .bl) vs → vs = ns.map V.bl
  | [], _, h => h
  | n :: r, _, ⟨v, ws, e, rv, h⟩ => by
    have rv : v = .bl n := rv
    rw [e, rv, RepL.boolsV h]; rfl
def sumS : D → Option D
  | .lst xs => (intsOf xs).map fun ns => .int ns.sum
  | _ => none
theorem ok_sum : OkN K (rSum K) (on1 sumS) := fun H Lv vs ds c Q mu rr ec q => by
  obtain ⟨d, rfl, e1⟩ := on1_eq ec
  clear ec
  have ec := e1
  clear e1
  obtain ⟨v, rfl, r⟩ := rr.one
  unfold sumS at ec
  split at ec
  · rename_i xs
    cases z : intsOf xs with
    | none => rw [z] at ec; cases ec
    | some ns =>
      rw [z] at ec; cases ec
      obtain ⟨a, ws, rfl, ha, _, h⟩ := r
      rw [intsOf_eq z] at h
      have e := h.intsV
      subst e
      exact ⟨a, ns, rfl, .inl (.inl ha), q _ H Grow.refl rfl⟩
  · cases ec
def allS : D → Option D
  | .lst xs => (boolsOf xs).map fun ns => .bl (ns.all id)
  | _ => none
def anyS : D → Option D
  | .lst xs => (boolsOf xs).map fun ns => .bl (ns.any id)
  | _ => none
theorem ok_all : OkN K (rAll K) (on1 allS) := fun H Lv vs ds c Q mu rr ec q => by
  obtain ⟨d, rfl, e1⟩ := on1_eq ec
  clear ec
  have ec := e1
  clear e1
  obtain ⟨v, rfl, r⟩ := rr.one
  unfold allS at ec
  split at ec
  · rename_i xs
    cases z : boolsOf xs with
    | none => rw [z] at ec; cases ec
    | some ns =>
      rw [z] at ec; cases ec
      obtain ⟨a, ws, rfl, ha, _, h⟩ := r
      rw [boolsOf_eq z] at h
      have e := h.boolsV
      subst e
      exact ⟨a, ns, rfl, .inl (.inl ha), q _ H Grow.refl rfl⟩
  · cases ec
theorem ok_any : OkN K (rAny K) (on1 anyS) := fun H Lv vs ds c Q mu rr ec q => by
  obtain ⟨d, rfl, e1⟩ := on1_eq ec
  clear ec
  have ec := e1
  clear e1
  obtain ⟨v, rfl, r⟩ := rr.one
  unfold anyS at ec
  split at ec
  · rename_i xs
    cases z : boolsOf xs with
    | none => rw [z] at ec; cases ec
    | some ns =>
      rw [z] at ec; cases ec
      obtain ⟨a, ws, rfl, ha, _, h⟩ := r
      rw [boolsOf_eq z] at h
      have e := h.boolsV
      subst e
      exact ⟨a, ns, rfl, .inl (.inl ha), q _ H Grow.refl rfl⟩
  · cases ec

/-! ### is -/
def isN (neg : Bool) : D → D → Option D
  | .non, .non => some (.bl (!neg))
  | .xc _ _ _ _, .non => none
  | _, .non => some (.bl neg)
  | _, _ => none
theorem repR_non {H : Hp} {Lv : Addr → Prop} {d : D} {v : V} (r : RepR K H Lv d v) : (d = .non ∧ v = .non) ∨ (d ≠ .non ∧ v ≠ .non) := by
  cases d with
  | non => exact .inl ⟨rfl, r⟩
  | bl b => exact .inr ⟨(fun z => nomatch z), by rw [show v = .bl b from r]; exact fun z => nomatch z⟩
  | int b => exact .inr ⟨(fun z => nomatch z), by rw [show v = .int b from r]; exact fun z => nomatch z⟩
  | str b => exact .inr ⟨(fun z => nomatch z), by rw [show v = .str b from r.1]; exact fun z => nomatch z⟩
  | ty b => exact .inr ⟨(fun z => nomatch z), by rw [show v = .ty b from r]; exact fun z => nomatch z⟩
  | sc b => obtain ⟨a, e, _⟩ := r; exact .inr ⟨(fun z => nomatch z), by rw [e]; exact fun z => nomatch z⟩
  | lst b => obtain ⟨a, _, e, _⟩ := r; exact .inr ⟨(fun z => nomatch z), by rw [e]; exact fun z => nomatch z⟩
  | tup b => obtain ⟨a, _, e, _⟩ := r; exact .inr ⟨(fun z => nomatch z), by rw [e]; exact fun z => nomatch z⟩
  | dK b c => obtain ⟨a, _, e, _⟩ := r; exact .inr ⟨(fun z => nomatch z), by rw [e]; exact fun z => nomatch z⟩
  | dT b c => obtain ⟨a, _, e, _⟩ := r; exact .inr ⟨(fun z => nomatch z), by rw [e]; exact fun z => nomatch z⟩
  | ob b c d => obtain ⟨a, _, _, e, _⟩ := r; exact .inr ⟨(fun z => nomatch z), by rw [e]; exact fun z => nomatch z⟩
  | xc b c d e => exact .inr ⟨(fun z => nomatch z), by rw [show v = .ref b from r.1]; exact fun z => nomatch z⟩
def isNon : D → Bool
  | .non => true
  | _ => false
def isNG : D → D → Option D
  | d, .non => some (.bl (isNon d))
  | _, _ => none
def notNG : D → D → Option D
  | d, .non => some (.bl (!isNon d))
  | _, _ => none
theorem isNon_v {H : Hp} {Lv : Addr → Prop} {d : D} {v : V} (r : RepR K H Lv d v) : decide (v = .non) = isNon d := by
  rcases repR_non r with ⟨rfl, rfl⟩ | ⟨h1, h2⟩
  · rfl
  · rw [decide_eq_false h2]
    cases d <;> first | rfl | exact absurd rfl h1
theorem ok_isN : Ok2 K (fun x y H Q => y = .non ∧ Q (.bl (decide (x = .non))) H) isNG := fun H Lv x y d e c Q mu r1 r2 ec q => by
  unfold isNG at ec
  split at ec
  · cases ec
    refine ⟨r2, ?_⟩
    rw [isNon_v r1]
    exact q _ H Grow.refl rfl
  · cases ec
theorem ok_notN : Ok2 K (fun x y H Q => y = .non ∧ Q (.bl (!decide (x = .non))) H) notNG := fun H Lv x y d e c Q mu r1 r2 ec q => by
  unfold notNG at ec
  split at ec
  · cases ec
    refine ⟨r2, ?_⟩
    rw [isNon_v r1]
    exact q _ H Grow.refl rfl
  · cases ec
end
end Dn
/-! More operations: kinds, equality, membership, slices, counts, dicts read. -/
namespace Dn
open PySem PySem.Spec PyProof.Rows L2

section
variable {K : PySem.W.Frag}
/-! ### isinstance -/
inductive TK where
  | b (s : String) | c (C : Addr)
  deriving DecidableEq
def TK.v : TK → Value
  | .b s => .type s
  | .c C => .ref C
def tyK : D → Option TK
  | .non => some (.b "NoneType")
  | .bl _ => some (.b "bool")
  | .int _ => some (.b "int")
  | .str _ => some (.b "str")
  | .sc _ => some (.b "list")
  | .lst _ => some (.b "list")
  | .tup _ => some (.b "tuple")
  | .dK _ _ => some (.b "dict")
  | .ob C _ _ => some (.c C)
  | _ => none
/-- an own class whose instances' kind is asked -/
structure InsT (K : PySem.W.Frag) (C : Addr) : Prop where
  cl : Cls K C
  fi : PySem.W.findIn K (.ref C) "__class__" = some (some (.builtin "object.__class__"))
  sp : PySem.W.specialIn K (.builtin "object.__class__") "__get__" = some (some (.builtin "getset_descriptor.__get__"))
  tk : PySem.W.takesIn K (.builtin "object.__class__") = some true
  mr : PySem.W.mroIn K C (.type "object") = some true
theorem tyK_ok {H : Hp} {Lv : Addr → Prop} {d : D} {v : V} {t : TK} (hi : ∀ C, t = .c C → InsT K C) (r : RepR K H Lv d v) (e : tyK d = some t) : TyX K H v t.v := by
  cases d with
  | non => cases e; rw [show v = .non from r]; exact .base .non
  | bl b => cases e; rw [show v = .bl b from r]; exact .base (.bl b)
  | int b => cases e; rw [show v = .int b from r]; exact .base (.int b)
  | str b => cases e; rw [show v = .str b from r.1]; exact .base (.str b)
  | sc ns =>
    cases e
    obtain ⟨a, rfl, h, _⟩ := r
    rcases h with ⟨o, h⟩ | ⟨o, its, n, h, hc, _⟩
    · exact .base (.frz h)
    · exact .kList h hc
  | lst ds => cases e; obtain ⟨a, vs, rfl, h, _⟩ := r; exact .base (.lst h)
  | tup ds => cases e; obtain ⟨a, vs, rfl, h, _⟩ := r; exact .base (.tup h)
  | dK ks ds =>
    cases e
    obtain ⟨a, vs, rfl, h, _⟩ := r
    rcases h with h | ⟨o, h⟩
    · exact .base (.dK h)
    · exact .fDict h
  | ob C ns ds =>
    cases e
    obtain ⟨a, dx, vs, rfl, h, _⟩ := r
    have T := hi C rfl
    exact .base (.ins h T.cl T.fi T.sp T.tk T.mr)
  | ty n => cases e
  | dT ks ds => cases e
  | xc a b c d => cases e
def isiG (tb : List (TK × Bool)) (d : D) : Option D := (tyK d).bind fun t => (tb.lookup t).map .bl
theorem lookup_mem {α β : Type} [BEq α] [LawfulBEq α] {x : α} {y : β} : ∀ {l : List (α × β)}, l.lookup x = some y → (x, y) ∈ l
  | [], h => by cases h
  | (a, b) :: l, h => by
    rw [List.lookup_cons] at h
    by_cases q : (x == a) = true
    · rw [q] at h; cases h; rw [eq_of_beq q]; exact List.mem_cons_self
    · rw [Bool.not_eq_true] at q; rw [q] at h; exact List.mem_cons_of_mem _ (lookup_mem h)
theorem ok_isi {c : V} {u : Value} {tb : List (TK × Bool)} (hc : ClsV c u) (hk : ∀ q ∈ tb, PySem.W.kitOne K q.1.v u = some q.2 ∧ ∀ C, q.1 = .c C → InsT K C) : Ok1 K (fun x H Q => rIsi K [x, c] H Q) (isiG tb) := fun H Lv x d z Q mu r ec q => by
  obtain ⟨t, e1, e2⟩ := bind_some ec
  cases e3 : tb.lookup t with
  | none => rw [e3] at e2; cases e2
  | some b =>
    rw [e3] at e2
    cases e2
    have m := hk _ (lookup_mem e3)
    exact ⟨x, c, t.v, u, b, rfl, hc, tyK_ok m.2 r e1, m.1, q _ H Grow.refl rfl⟩
end
/-- the kinds beside which a built-in class is asked, by the model's own table -/
def tbB (T : String) : List (TK × Bool) := ["NoneType", "bool", "int", "str", "list", "tuple", "dict"].filterMap fun a => (kitB a T).map fun b => (.b a, b)
theorem tbB_ok {K : PySem.W.Frag} {T : String} : ∀ q ∈ tbB T, PySem.W.kitOne K q.1.v (.type T) = some q.2 ∧ ∀ C, q.1 = .c C → InsT K C := fun q h => by
  unfold tbB at h
  obtain ⟨a, _, e⟩ := List.mem_filterMap.mp h
  cases z : kitB a T with
  | none => rw [z] at e; cases e
  | some b =>
    rw [z] at e
    cases e
    exact ⟨kit_ty z, fun C h => nomatch h⟩

section
variable {K : PySem.W.Frag}
/-! ### equality of data -/
mutual
def toP : D → Option PyData
  | .non => some .none
  | .bl b => some (.bool b)
  | .int i => some (.int i)
  | .str x => some (.str x)
  | .sc ns => some (.list (ns.map .int))
  | .lst ds => (toPs ds).map .list
  | .tup ds => (toPs ds).map .tuple
  | .ty _ => none
  | .dK _ _ => none
  | .dT _ _ => none
  | .ob _ _ _ => none
  | .xc _ _ _ _ => none
def toPs : List D → Option (List PyData)
  | [] => some []
  | d :: ds => match toP d, toPs ds with
    | some p, some ps => some (p :: ps)
    | _, _ => none
end
theorem dpInts {H : Hp} : ∀ ns : List Int, DpAll K H (ns.map V.int) (ns.map PyData.int)
  | [] => .nil
  | n :: r => .cons (.int n) (dpInts r)
mutual
theorem toP_ok {H : Hp} {Lv : Addr → Prop} : ∀ (d : D) (v : V) (p : PyData), Rep K H Lv d v → toP d = some p → Dp K H v p
  | .non, v, _, r, e => by cases e; rw [show v = .non from r]; exact .non
  | .bl b, v, _, r, e => by cases e; rw [show v = .bl b from r]; exact .bl b
  | .int b, v, _, r, e => by cases e; rw [show v = .int b from r]; exact .int b
  | .str b, v, _, r, e => by cases e; rw [show v = .str b from r.1]; exact .str b
  | .sc ns, v, _, ⟨a, ev, h, _⟩, e => by cases e; rw [ev]; exact .lst h.sql (dpInts ns)
  | .lst ds, v, _, ⟨a, vs, ev, _, h, _, hs⟩, e => by
    unfold toP at e
    cases z : toPs ds with
    | none => rw [z] at e; cases e
    | some ps => rw [z] at e; cases e; rw [ev]; exact .lst (.inl (.inl h)) (toPs_ok ds vs ps hs z)
  | .tup ds, v, _, ⟨a, vs, ev, h, _, hs⟩, e => by
    unfold toP at e
    cases z : toPs ds with
    | none => rw [z] at e; cases e
    | some ps => rw [z] at e; cases e; rw [ev]; exact .tup (.inl (.inl h)) (toPs_ok ds vs ps hs z)
  | .ty _, _, _, _, e => by cases e
  | .dK _ _, _, _, _, e => by cases e
  | .dT _ _, _, _, _, e => by cases e
  | .ob _ _ _, _, _, _, e => by cases e
  | .xc _ _ _ _, _, _, _, e => by cases e
theorem toPs_ok {H : Hp} {Lv : Addr → Prop} : ∀ (ds : List D) (vs : List V) (ps : List PyData), RepL K H Lv ds vs → toPs ds = some ps → DpAll K H vs ps
  | [], vs, _, h, e => by cases e; rw [show vs = [] from h]; exact .nil
  | d :: ds, vs, _, ⟨v, ws, ev, r, hs⟩, e => by
    unfold toPs at e
    split at e
    · rename_i p ps e1 e2
      cases e
      rw [ev]
      exact .cons (toP_ok d v p r e1) (toPs_ok ds ws ps hs e2)
    · cases e
end
theorem toP_okR {H : Hp} {Lv : Addr → Prop} {d : D} {v : V} {p : PyData} (r : RepR K H Lv d v) (e : toP d = some p) : Dp K H v p := by
  cases d with
  | lst ds =>
    obtain ⟨a, vs, rfl, h, _, hs⟩ := r
    unfold toP at e
    cases z : toPs ds with
    | none => rw [z] at e; cases e
    | some ps => rw [z] at e; cases e; exact .lst (.inl (.inl h)) (toPs_ok ds vs ps hs z)
  | dK ks ds => cases e
  | dT ks ds => cases e
  | ob C ns ds => cases e
  | _ => exact toP_ok _ v p r e
def eqB (d e : D) : Option Bool := match toP d, toP e with
  | some p, some q => if SeqAt.shaped p = true ∧ SeqAt.shaped q = true then some (p.eqv q) else none
  | _, _ => none
theorem eqB_ok {d e : D} {b : Bool} (h : eqB d e = some b) : ∃ p q, toP d = some p ∧ toP e = some q ∧ SeqAt.shaped p = true ∧ SeqAt.shaped q = true ∧ b = p.eqv q := by
  unfold eqB at h
  split at h
  · rename_i p q e1 e2
    by_cases z : SeqAt.shaped p = true ∧ SeqAt.shaped q = true
    · rw [if_pos z] at h; cases h; exact ⟨p, q, e1, e2, z.1, z.2, rfl⟩
    · rw [if_neg z] at h; cases h
  · cases h
def eqG (d e : D) : Option D := (eqB d e).map .bl
def neG (d e : D) : Option D := (eqB d e).map fun b => .bl (!b)
theorem ok_eqD : Ok2 K (rEqD K) eqG := fun H Lv x y d e c Q mu r1 r2 ec q => by
  unfold eqG at ec
  cases z : eqB d e with
  | none => rw [z] at ec; cases ec
  | some b =>
    rw [z] at ec
    cases ec
    obtain ⟨p, p', e1, e2, s1, s2, rfl⟩ := eqB_ok z
    exact ⟨p, p', toP_okR r1 e1, toP_okR r2 e2, s1, s2, q _ H Grow.refl rfl⟩
theorem ok_neD : Ok2 K (rNeD K) neG := fun H Lv x y d e c Q mu r1 r2 ec q => by
  unfold neG at ec
  cases z : eqB d e with
  | none => rw [z] at ec; cases ec
  | some b =>
    rw [z] at ec
    cases ec
    obtain ⟨p, p', e1, e2, s1, s2, rfl⟩ := eqB_ok z
    exact ⟨p, p', toP_okR r1 e1, toP_okR r2 e2, s1, s2, q _ H Grow.refl rfl⟩
/-- of two whole numbers, two texts, flags: no bounds at all -/
def eqS (d e : D) : Option D := match d, e with
  | .int i, .int j => some (.bl (decide (i = j)))
  | .str x, .str y => some (.bl (decide (x = y)))
  | .bl x, .bl y => some (.bl (decide (x = y)))
  | .non, .non => some (.bl true)
  | .non, .int _ => some (.bl false)
  | .int _, .non => some (.bl false)
  | .non, .str _ => some (.bl false)
  | .str _, .non => some (.bl false)
  | .non, .bl _ => some (.bl false)
  | .bl _, .non => some (.bl false)
  | .int _, .str _ => some (.bl false)
  | .str _, .int _ => some (.bl false)
  | .bl _, .str _ => some (.bl false)
  | .str _, .bl _ => some (.bl false)
  | _, _ => none
def notB : D → Option D
  | .bl b => some (.bl (!b))
  | _ => none
def neS (d e : D) : Option D := (eqS d e).bind notB
theorem eqS_ok {H : Hp} {Lv : Addr → Prop} {d e c : D} {x y : V} (r1 : RepR K H Lv d x) (r2 : RepR K H Lv e y) (h : eqS d e = some c) : scal x y = true ∧ c = .bl (decide (x = y)) := by
  unfold eqS at h
  split at h <;> cases h <;> first
    | (rw [show x = .int _ from r1, show y = .int _ from r2]; exact ⟨rfl, by simp⟩)
    | (rw [show x = .str _ from r1.1, show y = .str _ from r2.1]; exact ⟨rfl, by simp⟩)
    | (rw [show x = .bl _ from r1, show y = .bl _ from r2]; exact ⟨rfl, by simp⟩)
    | (rw [show x = .non from r1, show y = .non from r2]; exact ⟨rfl, by simp⟩)
    | (rw [show x = .non from r1, show y = .int _ from r2]; exact ⟨rfl, by simp⟩)
    | (rw [show x = .int _ from r1, show y = .non from r2]; exact ⟨rfl, by simp⟩)
    | (rw [show x = .non from r1, show y = .str _ from r2.1]; exact ⟨rfl, by simp⟩)
    | (rw [show x = .str _ from r1.1, show y = .non from r2]; exact ⟨rfl, by simp⟩)
    | (rw [show x = .non from r1, show y = .bl _ from r2]; exact ⟨rfl, by simp⟩)
    | (rw [show x = .bl _ from r1, show y = .non from r2]; exact ⟨rfl, by simp⟩)
    | (rw [show x = .int _ from r1, show y = .str _ from r2.1]; exact ⟨rfl, by simp⟩)
    | (rw [show x = .str _ from r1.1, show y = .int _ from r2]; exact ⟨rfl, by simp⟩)
    | (rw [show x = .bl _ from r1, show y = .str _ from r2.1]; exact ⟨rfl, by simp⟩)
    | (rw [show x = .str _ from r1.1, show y = .bl _ from r2]; exact ⟨rfl, by simp⟩)
theorem ok_eqS : Ok2 K rEq eqS := fun H Lv x y d e c Q mu r1 r2 ec q => by
  obtain ⟨h, rfl⟩ := eqS_ok r1 r2 ec
  exact ⟨h, q _ H Grow.refl rfl⟩
theorem ok_neS : Ok2 K rNe neS := fun H Lv x y d e c Q mu r1 r2 ec q => by
  obtain ⟨z, e1, e2⟩ := bind_some ec
  obtain ⟨h, rfl⟩ := eqS_ok r1 r2 e1
  cases e2
  exact ⟨h, q _ H Grow.refl (by show V.bl _ = V.bl _; simp)⟩

/-! ### membership -/
def flatD : D → Option V
  | .non => some .non
  | .bl b => some (.bl b)
  | .int i => some (.int i)
  | .str x => some (.str x)
  | _ => none
def flatDs : List D → Option (List V)
  | [] => some []
  | d :: ds => match flatD d, flatDs ds with
    | some v, some vs => some (v :: vs)
    | _, _ => none
theorem flatD_ok {H : Hp} {Lv : Addr → Prop} {d : D} {v w : V} (r : RepR K H Lv d v) (e : flatD d = some w) : v = w ∧ flatV v = true := by
  unfold flatD at e
  split at e <;> cases e
  · exact ⟨r, by rw [show v = .non from r]; rfl⟩
  · exact ⟨r, by rw [show v = .bl _ from r]; rfl⟩
  · exact ⟨r, by rw [show v = .int _ from r]; rfl⟩
  · exact ⟨r.1, by rw [show v = .str _ from r.1]; rfl⟩
theorem Rep.root {H : Hp} {Lv : Addr → Prop} {d : D} {v : V} (h : Rep K H Lv d v) : RepR K H Lv d v := by
  cases d with
  | lst ds => obtain ⟨a, vs, e, _, q⟩ := h; exact ⟨a, vs, e, q⟩
  | dK ks ds => obtain ⟨a, vs, e, _, q⟩ := h; exact ⟨a, vs, e, q⟩
  | dT ks ds => obtain ⟨a, vs, e, _, q⟩ := h; exact ⟨a, vs, e, q⟩
  | ob C ns ds => obtain ⟨a, dx, vs, e, _, q⟩ := h; exact ⟨a, dx, vs, e, q⟩
  | _ => exact h
theorem flatDs_ok {H : Hp} {Lv : Addr → Prop} : ∀ {ds : List D} {vs ws : List V}, RepL K H Lv ds vs → flatDs ds = some ws → vs = ws ∧ vs.all flatV = true
  | [], vs, ws, h, e => by cases e; rw [show vs = [] from h]; exact ⟨rfl, rfl⟩
  | d :: ds, vs, ws, ⟨v, us, ev, r, hs⟩, e => by
    unfold flatDs at e
    split at e
    · rename_i p ps e1 e2
      cases e
      obtain ⟨rfl, f⟩ := flatD_ok r.root e1
      obtain ⟨rfl, g⟩ := flatDs_ok hs e2
      rw [ev]
      exact ⟨rfl, by simp [f, g]⟩
    · cases e
def inB (d e : D) : Option Bool := match flatD d, e with
  | some v, .lst ds => (flatDs ds).map fun vs => inV v vs
  | some v, .tup ds => (flatDs ds).map fun vs => inV v vs
  | _, _ => none
def inG (d e : D) : Option D := (inB d e).map .bl
def notInG (d e : D) : Option D := (inB d e).map fun b => .bl (!b)
theorem inB_ok {H : Hp} {Lv : Addr → Prop} {d e : D} {x y : V} {b : Bool} (r1 : RepR K H Lv d x) (r2 : RepR K H Lv e y) (h : inB d e = some b) : ∃ p xs, y = .ref p ∧ (SqL K H p xs ∨ SqT K H p xs) ∧ flatV x = true ∧ xs.all flatV = true ∧ b = inV x xs := by
  unfold inB at h
  split at h
  · rename_i v ds e1
    cases z : flatDs ds with
    | none => rw [z] at h; cases h
    | some vs =>
      rw [z] at h
      cases h
      obtain ⟨a, us, rfl, ha, _, hs⟩ := r2
      obtain ⟨rfl, f⟩ := flatD_ok r1 e1
      obtain ⟨rfl, g⟩ := flatDs_ok hs z
      exact ⟨a, us, rfl, .inl (.inl (.inl ha)), f, g, rfl⟩
  · rename_i v ds e1
    cases z : flatDs ds with
    | none => rw [z] at h; cases h
    | some vs =>
      rw [z] at h
      cases h
      obtain ⟨a, us, rfl, ha, _, hs⟩ := r2
      obtain ⟨rfl, f⟩ := flatD_ok r1 e1
      obtain ⟨rfl, g⟩ := flatDs_ok hs z
      exact ⟨a, us, rfl, .inr (.inl (.inl ha)), f, g, rfl⟩
  · cases h
theorem ok_in : Ok2 K (rIn K false) inG := fun H Lv x y d e c Q mu r1 r2 ec q => by
  unfold inG at ec
  cases z : inB d e with
  | none => rw [z] at ec; cases ec
  | some b =>
    rw [z] at ec
    cases ec
    obtain ⟨p, xs, rfl, s, f, g, rfl⟩ := inB_ok r1 r2 z
    exact ⟨p, xs, rfl, s, f, g, q _ H Grow.refl rfl⟩
theorem ok_notIn : Ok2 K (rIn K true) notInG := fun H Lv x y d e c Q mu r1 r2 ec q => by
  unfold notInG at ec
  cases z : inB d e with
  | none => rw [z] at ec; cases ec
  | some b =>
    rw [z] at ec
    cases ec
    obtain ⟨p, xs, rfl, s, f, g, rfl⟩ := inB_ok r1 r2 z
    exact ⟨p, xs, rfl, s, f, g, q _ H Grow.refl rfl⟩
end
end Dn
/-! Slices, dicts read, methods of texts, chained comparisons. -/
namespace Dn
open PySem PySem.Spec PyProof.Rows L2

section
variable {K : PySem.W.Frag}
/-! ### slices -/
def PoP (K : PySem.W.Frag) (S : Su) (W : WX) (σ : L2.St) (Q : Option Int → Hp → Prop) : Out (Option Int) → Prop
  | .ok o en => ∀ H tmp, (∀ q ∈ S.tmp, q ∈ tmp) → Stt K S σ H en tmp → Q o H
  | .ex C fs en => PoX K S W σ C fs en
  | .bad => False
structure DO {ι : Type} (X : ι → Cx) (Wf : ι → WX) (K : PySem.W.Frag) (n : Nat) (P : Nat → Bool) (e : Option Expr) (f : En → Out (Option Int)) : Prop where
  ex : ∃ t : WX → TO, (∀ i, PO (X i) e (t (Wf i))) ∧ ∀ (W : WX) (S : Su) σ H en Q, Fine n P S en → Stt K S σ H en S.tmp → PoP K S W σ Q (f en) → t W σ H Q
end
section
variable {ι : Type} {X : ι → Cx} {Wf : ι → WX} {K : PySem.W.Frag} {n : Nat} {P : Nat → Bool} {e a b c : Expr} {es : List Expr} {pos p2 : Pos} {lo hi : Option Expr}
theorem do_none : DO X Wf K n P none (fun en => .ok none en) := ⟨fun _ => tNoPart, fun _ => po_none, fun W S σ H en Q fi I Po => Po H S.tmp (fun _ h => h) I⟩
def partA (en : En) (a : AR) : Out (Option Int) := match viewA en a with
  | some (.int i) => .ok (some i) en
  | _ => .bad
theorem do_some {f : En → Out AR} (h : DA X Wf K n P e f) : DO X Wf K n P (some e) (fun en => (f en).bind fun a en => partA en a) := by
  obtain ⟨t, p, r⟩ := h.ex
  refine ⟨fun W => tPart (t W), fun i => po_some (p i), fun W S σ H en Q fi I Po => r W S σ H en _ fi I ?_⟩
  cases q : f en with
  | ok a en1 =>
    rw [q] at Po
    intro v H1 tmp1 s1 J h1
    have Po : PoP K S W σ Q (partA en1 a) := Po
    unfold partA at Po
    split at Po
    · rename_i i e1
      obtain ⟨Lv, op, k⟩ := ER.opn J
      have r : v = .int i := op.arg h1 e1
      exact ⟨i, r, Po H1 tmp1 s1 J⟩
    · exact Po.elim
  | ex C fs en' => rw [q] at Po; exact Po
  | bad => rw [q] at Po; exact Po
def OkSl (K : PySem.W.Frag) (r : V → Option Int → Option Int → Hp → VK → Prop) (g : D → Option Int → Option Int → Option D) : Prop :=
  ∀ (H : Hp) (Lv : Addr → Prop) (x : V) (d c : D) (lo hi : Option Int) (Q : VK), (∀ a, Lv a → Mut (H a)) → RepR K H Lv d x → g d lo hi = some c → (∀ v H', Grow H H' → Rep K H' Lv c v → Q v H') → r x lo hi H Q
def OkSlF (K : PySem.W.Frag) (r : V → Option Int → Option Int → Hp → VK → Prop) (g : D → Option Int → Option Int → Option D) : Prop :=
  ∀ (H : Hp) (Lv : Addr → Prop) (x : V) (d c : D) (lo hi : Option Int) (Q : VK), (∀ a, Lv a → Mut (H a)) → RepR K H Lv d x → g d lo hi = some c → (∀ p u, H p = none → RepC K H Lv u c → Q (.ref p) (upd H p u)) → r x lo hi H Q
def slG (g : D → Option Int → Option Int → Option D) (f : En → Out AR) (l u : En → Out (Option Int)) : En → Out D := fun en => (f en).bind fun a en => (l en).bind fun lo en => (u en).bind fun hi en => liftO ((viewA en a).bind fun d => g d lo hi) en
def slF (g : D → Option Int → Option Int → Option D) (f : En → Out AR) (l u : En → Out (Option Int)) : En → Out O := fun en => (f en).bind fun a en => (l en).bind fun lo en => (u en).bind fun hi en => liftO (((viewA en a).bind fun d => g d lo hi).map .fl) en
theorem de_slice {r : V → Option Int → Option Int → Hp → VK → Prop} {g : D → Option Int → Option Int → Option D} {f : En → Out AR} {l u : En → Out (Option Int)} (hs : ∀ i, SlR (X i) r) (hr : OkSl K r g) (ha : DA X Wf K n P e f) (hl : DO X Wf K n P lo l) (hu : DO X Wf K n P hi u) :
    DE X Wf K n P (.Subscript e (.Slice lo hi none p2) pos) (slG g f l u) := by
  obtain ⟨t, p, rd⟩ := ha.ex
  obtain ⟨t2, p2, rd2⟩ := hl.ex
  obtain ⟨t3, p3, rd3⟩ := hu.ex
  refine ⟨fun W => tSl r (t W) (t2 W) (t3 W), fun i => pe_slice (hs i) (p i) (p2 i) (p3 i), fun W S σ H en Q fi I Po => rd W S σ H en _ fi I ?_⟩
  unfold slG at Po
  cases q : f en with
  | ok ar en1 =>
    rw [q] at Po
    intro v H1 tmp1 s1 J h1
    refine rd2 W (S.w tmp1) σ H1 en1 _ ((fi.to I J rfl).w _) J ?_
    rw [bind_ok] at Po
    cases q2 : l en1 with
    | ok lo' en2 =>
      rw [q2, bind_ok] at Po
      intro H2 tmp2 s2 J2
      refine rd3 W (S.w tmp2) σ H2 en2 _ ((fi.to I J2 rfl).w _) J2 ?_
      cases q3 : u en2 with
      | ok hi' en3 =>
        rw [q3, bind_ok] at Po
        intro H3 tmp3 s3 J3
        obtain ⟨c, ec, Po⟩ := liftD Po
        obtain ⟨d, e1, e2⟩ := bind_some ec
        obtain ⟨Lv, op, k⟩ := ER.opn J3
        exact hr H3 Lv v d c lo' hi' Q op.mu (op.arg (h1.mono fun q h => s3 q (s2 q h)) e1) e2 fun v' H' g r => Po v' H' (ER.add k g r fun q h => s3 q (s2 q (s1 q h)))
      | ex C fs en' => rw [q3] at Po; exact PoX.w Po fun q h => s2 q (s1 q h)
      | bad => rw [q3] at Po; exact Po
    | ex C fs en' => rw [q2] at Po; exact PoX.w Po s1
    | bad => rw [q2] at Po; exact Po
  | ex C fs en' => rw [q] at Po; exact Po
  | bad => rw [q] at Po; exact Po
theorem df_slice {r : V → Option Int → Option Int → Hp → VK → Prop} {g : D → Option Int → Option Int → Option D} {f : En → Out AR} {l u : En → Out (Option Int)} (hs : ∀ i, SlR (X i) r) (hr : OkSlF K r g) (ha : DA X Wf K n P e f) (hl : DO X Wf K n P lo l) (hu : DO X Wf K n P hi u) :
    DF X Wf K n P (.Subscript e (.Slice lo hi none p2) pos) (slF g f l u) := by
  obtain ⟨t, p, rd⟩ := ha.ex
  obtain ⟨t2, p2, rd2⟩ := hl.ex
  obtain ⟨t3, p3, rd3⟩ := hu.ex
  refine ⟨fun W => tSl r (t W) (t2 W) (t3 W), fun i => pe_slice (hs i) (p i) (p2 i) (p3 i), fun W S σ H en Q fi I Po => rd W S σ H en _ fi I ?_⟩
  unfold slF at Po
  cases q : f en with
  | ok ar en1 =>
    rw [q] at Po
    intro v H1 tmp1 s1 J h1
    refine rd2 W (S.w tmp1) σ H1 en1 _ ((fi.to I J rfl).w _) J ?_
    rw [bind_ok] at Po
    cases q2 : l en1 with
    | ok lo' en2 =>
      rw [q2, bind_ok] at Po
      intro H2 tmp2 s2 J2
      refine rd3 W (S.w tmp2) σ H2 en2 _ ((fi.to I J2 rfl).w _) J2 ?_
      cases q3 : u en2 with
      | ok hi' en3 =>
        rw [q3, bind_ok] at Po
        intro H3 tmp3 s3 J3
        cases ec : (viewA en3 ar).bind fun d => g d lo' hi' with
        | none => rw [ec] at Po; exact Po.elim
        | some c =>
          rw [ec] at Po
          obtain ⟨d, e1, e2⟩ := bind_some ec
          obtain ⟨fp, ft, tm⟩ := ER.fit J3
          refine hr H3 (lv S.F.Av fp) v d c lo' hi' Q (ft.opn J3 tm).mu ((ft.opn J3 tm).arg (h1.mono fun q h => s3 q (s2 q h)) e1) e2 fun p u hp hc => Po (.ref p) _ ?_
          have N := ER.newOf J3 ft tm hp hc
          rw [List.append_assoc, List.append_assoc] at N
          exact N.sub fun q h => s3 q (s2 q (s1 q h))
      | ex C fs en' => rw [q3] at Po; exact PoX.w Po fun q h => s2 q (s1 q h)
      | bad => rw [q3] at Po; exact Po
    | ex C fs en' => rw [q2] at Po; exact PoX.w Po s1
    | bad => rw [q2] at Po; exact Po
  | ex C fs en' => rw [q] at Po; exact Po
  | bad => rw [q] at Po; exact Po

/-! ### comparisons in a chain -/
def chainK (g' : D → D → Option D) (h : En → Out AR) (b : AR) (en : En) : Option D → Out D
  | some (.bl true) => (h en).bind fun c en => liftO ((viewA en b).bind fun y => (viewA en c).bind fun z => g' y z) en
  | some (.bl false) => .ok (.bl false) en
  | _ => .bad
def chainD (g g' : D → D → Option D) (f k h : En → Out AR) : En → Out D := fun en => (f en).bind fun a en => (k en).bind fun b en => chainK g' h b en ((viewA en a).bind fun x => (viewA en b).bind fun y => g x y)
theorem chain_run {W : WX} {r r' : R2} {g g' : D → D → Option D} {f k h : En → Out AR} {t t2 t3 : TE} (hr' : Ok2 K r' g')
    (hb : ∀ (H : Hp) (Lv : Addr → Prop) (x y : V) (d d' c : D), RepR K H Lv d x → RepR K H Lv d' y → g d d' = some c → ∀ Q : VK, (∀ v, Rep K H Lv c v → Q v H) → r x y H Q)
    (rd : ∀ (S : Su) σ H en Q, Fine n P S en → Stt K S σ H en S.tmp → PoA K S W σ Q (f en) → t σ H Q) (rd2 : ∀ (S : Su) σ H en Q, Fine n P S en → Stt K S σ H en S.tmp → PoA K S W σ Q (k en) → t2 σ H Q)
    (rd3 : ∀ (S : Su) σ H en Q, Fine n P S en → Stt K S σ H en S.tmp → PoA K S W σ Q (h en) → t3 σ H Q)
    (S : Su) (σ : L2.St) (H : Hp) (en : En) (Q : VK) (fi : Fine n P S en) (I : Stt K S σ H en S.tmp) (Po : PoE K S W σ Q (chainD g g' f k h en)) : tChain r r' t t2 t3 σ H Q := by
  refine rd S σ H en _ fi I ?_
  unfold chainD at Po
  cases q : f en with
  | ok ar en1 =>
    rw [q, bind_ok] at Po
    intro v H1 tmp1 s1 J h1
    refine rd2 (S.w tmp1) σ H1 en1 _ ((fi.to I J rfl).w _) J ?_
    cases q2 : k en1 with
    | ok br en2 =>
      rw [q2, bind_ok] at Po
      intro u H2 tmp2 s2 J2 h2
      cases ec : (viewA en2 ar).bind fun x => (viewA en2 br).bind fun y => g x y with
      | none => rw [ec] at Po; exact Po.elim
      | some cc =>
        rw [ec] at Po
        obtain ⟨d, e1, ec⟩ := bind_some ec
        obtain ⟨d', e2, ec⟩ := bind_some ec
        obtain ⟨Lv, op, kk⟩ := ER.opn J2
        refine hb H2 Lv v u d d' cc (op.arg (h1.mono s2) e1) (op.arg h2 e2) ec _ fun z rz => ?_
        unfold chainK at Po
        split at Po
        · rename_i ez
          cases ez
          refine ⟨true, rz, ?_⟩
          simp only [if_true]
          refine rd3 (S.w tmp2) σ H2 en2 _ ((fi.to I J2 rfl).w _) J2 ?_
          cases q3 : h en2 with
          | ok cr en3 =>
            rw [q3, bind_ok] at Po
            intro w' H3 tmp3 s3 J3 h3
            obtain ⟨c, ec, Po⟩ := liftD Po
            obtain ⟨d, e1, ec⟩ := bind_some ec
            obtain ⟨d', e2, ec⟩ := bind_some ec
            obtain ⟨Lv, op, k⟩ := ER.opn J3
            exact hr' H3 Lv u w' d d' c Q op.mu (op.arg (h2.mono s3) e1) (op.arg h3 e2) ec fun v' H' g r => Po v' H' (ER.add k g r fun q h => s3 q (s2 q (s1 q h)))
          | ex C fs en' => rw [q3] at Po; exact PoX.w Po fun q h => s2 q (s1 q h)
          | bad => rw [q3] at Po; exact Po
        · rename_i ez
          cases ez
          refine ⟨false, rz, ?_⟩
          simp only [Bool.false_eq_true, if_false]
          exact Po (.bl false) H2 (ER.add kk Grow.refl rfl fun q h => s2 q (s1 q h))
        · exact Po.elim
    | ex C fs en' => rw [q2] at Po; exact PoX.w Po s1
    | bad => rw [q2] at Po; exact Po
  | ex C fs en' => rw [q] at Po; exact Po
  | bad => rw [q] at Po; exact Po
theorem de_chain {op op' : CmpOp} {r r' : R2} {g g' : D → D → Option D} {f k h : En → Out AR} (ho : ∀ i, OpR (X i) (compareOp op) r) (ho' : ∀ i, OpR (X i) (compareOp op') r') (hr' : Ok2 K r' g')
    (hb : ∀ (H : Hp) (Lv : Addr → Prop) (x y : V) (d d' c : D), RepR K H Lv d x → RepR K H Lv d' y → g d d' = some c → ∀ Q : VK, (∀ v, Rep K H Lv c v → Q v H) → r x y H Q)
    (ha : DA X Wf K n P a f) (hk : DA X Wf K n P b k) (hc : DA X Wf K n P c h) (hm : lastMarks [op, op'] [b, c] = false := by rfl) : DE X Wf K n P (.Compare a [op, op'] [b, c] pos) (chainD g g' f k h) := by
  obtain ⟨t, p, rd⟩ := ha.ex
  obtain ⟨t2, p2, rd2⟩ := hk.ex
  obtain ⟨t3, p3, rd3⟩ := hc.ex
  exact ⟨fun W => tChain r r' (t W) (t2 W) (t3 W), fun i => pe_chain (ho i) (ho' i) (p i) (p2 i) (p3 i) hm, fun W => chain_run hr' hb (rd W) (rd2 W) (rd3 W)⟩
theorem dt_chain {op op' : CmpOp} {r r' : R2} {g g' : D → D → Option D} {f k h : En → Out AR} (ho : ∀ i, OpR (X i) (compareOp op) r) (ho' : ∀ i, OpR (X i) (compareOp op') r') (hr' : Ok2 K r' g')
    (hb : ∀ (H : Hp) (Lv : Addr → Prop) (x y : V) (d d' c : D), RepR K H Lv d x → RepR K H Lv d' y → g d d' = some c → ∀ Q : VK, (∀ v, Rep K H Lv c v → Q v H) → r x y H Q)
    (ha : DA X Wf K n P a f) (hk : DA X Wf K n P b k) (hc : DA X Wf K n P c h) (hm : lastMarks [op, op'] [b, c] = false := by rfl) : DT X Wf K n P (.Compare a [op, op'] [b, c] pos) (fun en => (chainD g g' f k h en).bind boolD) := by
  obtain ⟨t, p, rd⟩ := ha.ex
  obtain ⟨t2, p2, rd2⟩ := hk.ex
  obtain ⟨t3, p3, rd3⟩ := hc.ex
  refine ⟨fun W => tTest (tChain r r' (t W) (t2 W) (t3 W)), fun i => pt_chain (ho i) (ho' i) (p i) (p2 i) (p3 i) hm, fun W S σ H en Q fi I Po => chain_run hr' hb (rd W) (rd2 W) (rd3 W) S σ H en _ fi I ?_⟩
  cases q : chainD g g' f k h en with
  | ok d en' =>
    rw [q] at Po
    cases d with
    | bl b =>
      intro v H J
      obtain ⟨Lv, op, _⟩ := ER.opn J
      have e : v = .bl b := op.tm _ List.mem_cons_self
      exact ⟨b, e, Po H (ER.pop J)⟩
    | _ => exact (show False from Po).elim
  | ex C fs en' => rw [q] at Po; exact Po
  | bad => rw [q] at Po; exact Po
/-- storing a value by a target of any form -/
def asgS (asg : D → En → Option En) (f : En → Out D) : En → Out Fl := fun en => (f en).bind fun d en => match asg d en with
  | none => .bad
  | some en' => .ok .nx en'
theorem ds_asgG {s : Stmt} {tg : Expr} {sl : List Nat} {asg : D → En → Option En} {f : En → Out D} (he : DE X Wf K n P e f) (hg : DG X K n P tg sl asg) (mk : ∀ i t g, PE (X i) e t → PG (X i) tg g → PS (X i) s (tAsg t g)) : DS X Wf K n P s (asgS asg f) := by
  obtain ⟨t, p, rd⟩ := he.ex
  obtain ⟨g, pg, rg⟩ := hg.ex
  refine ⟨fun W => tAsg (t W) g, fun i => mk i _ _ (p i) (pg i), fun W S σ H en B fi I Po => rd W S σ H en _ fi I ?_⟩
  unfold asgS at Po
  cases q : f en with
  | ok d en1 =>
    rw [q, bind_ok] at Po
    intro v H1 J
    refine rg S σ H1 en1 d v _ (fi.to I (ER.pop J) rfl) J ?_
    split
    · rename_i e; rw [e] at Po; exact Po.elim
    · rename_i en' e
      rw [e] at Po
      exact fun σ' H' l _ J' => Po σ' H' l J'
  | ex C fs en' => rw [q] at Po; exact PoS.x Po
  | bad => rw [q] at Po; exact Po
end
end Dn
/-! Slices of each kind, repetition, methods of texts, dicts read and written. -/
namespace Dn
open PySem PySem.Spec PyProof.Rows L2

section
variable {K : PySem.W.Frag}
def cutD (xs : List D) (lo hi : Option Int) : List D := (xs.drop (HT.sIx xs.length 0 lo)).take (HT.sIx xs.length xs.length hi - HT.sIx xs.length 0 lo)
theorem RepL.cut {H : Hp} {Lv : Addr → Prop} {ds : List D} {vs : List V} {lo hi : Option Int} (h : RepL K H Lv ds vs) : RepL K H Lv (cutD ds lo hi) (cutV vs lo hi) := by
  unfold cutD cutV
  rw [h.length]
  exact (h.drop _).take _
theorem cutD_length {xs : List D} {lo hi : Option Int} : (cutD xs lo hi).length ≤ xs.length := by
  unfold cutD
  rw [List.length_take, List.length_drop]
  omega
def slL : D → Option Int → Option Int → Option D
  | .lst ds, lo, hi => some (.lst (cutD ds lo hi))
  | _, _, _ => none
theorem ok_slL : OkSlF K (rSlL K) slL := fun H Lv x d c lo hi Q mu r ec q => by
  unfold slL at ec
  split at ec
  · rename_i ds
    cases ec
    obtain ⟨a, vs, rfl, h, hz, hs⟩ := r
    refine ⟨a, vs, rfl, .inl (.inl h), fun p hp => q p _ hp ⟨?_, hs.cut⟩⟩
    exact Nat.le_trans cutD_length hz
  · cases ec
def slT : D → Option Int → Option Int → Option D
  | .tup ds, lo, hi => some (.tup (cutD ds lo hi))
  | _, _, _ => none
theorem ok_slT : OkSl K (rSlA K) slT := fun H Lv x d c lo hi Q mu r ec q => by
  unfold slT at ec
  split at ec
  · rename_i ds
    cases ec
    obtain ⟨a, vs, rfl, h, hz, hs⟩ := r
    refine ⟨a, vs, rfl, .inl (.inl h), fun e => ?_, fun _ p hp => q _ _ (Grow.upd hp) ⟨p, cutV vs lo hi, rfl, upd_same, Nat.le_trans cutD_length hz, hs.cut.mono (Grow.upd hp).keep⟩⟩
    have l := hs.length
    refine q _ H Grow.refl ⟨a, vs, rfl, h, ?_, ?_⟩
    · exact Nat.le_trans cutD_length hz
    · have e2 : cutD ds lo hi = ds := by
        unfold cutD
        rw [← l, e.1, e.2, l]
        simp
      rw [e2]; exact hs
  · cases ec
def slS : D → Option Int → Option Int → Option D
  | .str z, lo, hi => some (.str (cutS z lo hi))
  | _, _, _ => none
theorem ok_slS : OkSl K rSlS slS := fun H Lv x d c lo hi Q mu r ec q => by
  unfold slS at ec
  split at ec
  · rename_i z
    cases ec
    obtain ⟨rfl, hz⟩ := r
    refine ⟨z, rfl, hz, q _ H Grow.refl ⟨rfl, Nat.le_trans ?_ hz⟩⟩
    show (cutS z lo hi).cps.size ≤ z.cps.size
    unfold cutS
    simp only [List.size_toArray, List.length_take, List.length_drop, Array.length_toList]
    omega
  · cases ec
/-- t * k of a tuple that is not empty, k from 2 on -/
def repT : D → D → Option D
  | .tup ds, .int k => if ds ≠ [] ∧ 2 ≤ k ∧ k ≤ 1000 ∧ ds.length ≤ 1000 then some (.tup (List.replicate k.toNat ds).flatten) else none
  | _, _ => none
theorem RepL.rep {H : Hp} {Lv : Addr → Prop} {ds : List D} {vs : List V} (h : RepL K H Lv ds vs) : ∀ n : Nat, RepL K H Lv (List.replicate n ds).flatten (List.replicate n vs).flatten
  | 0 => by simp [RepL]
  | n + 1 => by
    rw [List.replicate_succ, List.replicate_succ, List.flatten_cons, List.flatten_cons]
    exact h.append (RepL.rep h n)
theorem rep_length {ds : List D} {n : Nat} : (List.replicate n ds).flatten.length = n * ds.length := by
  induction n with
  | zero => simp
  | succ n ih => rw [List.replicate_succ, List.flatten_cons, List.length_append, ih, Nat.succ_mul, Nat.add_comm]
theorem ok_repT : Ok2 K (rRepT K) repT := fun H Lv x y d e c Q mu r1 r2 ec q => by
  unfold repT at ec
  split at ec
  · rename_i ds k
    by_cases hc : ds ≠ [] ∧ 2 ≤ k ∧ k ≤ 1000 ∧ ds.length ≤ 1000
    · rw [if_pos hc] at ec
      cases ec
      obtain ⟨a, vs, rfl, h, hz, hs⟩ := r1
      have l := hs.length
      refine ⟨a, k, vs, rfl, r2, .inl (.inl h), fun z => hc.1 (List.length_eq_zero_iff.mp (by rw [← l, z]; rfl)), hc.2.1, hc.2.2.1, by rw [l]; exact hc.2.2.2, fun p hp => q _ _ (Grow.upd hp) ⟨p, _, rfl, upd_same, ?_, (hs.rep _).mono (Grow.upd hp).keep⟩⟩
      rw [rep_length, sizeLine_eq]
      have := Nat.mul_le_mul (show k.toNat ≤ 1000 by omega) hc.2.2.2
      omega
    · rw [if_neg hc] at ec; cases ec
  · cases ec
end

section
variable {ι : Type} {X : ι → Cx} {Wf : ι → WX} {K : PySem.W.Frag} {n : Nat} {P : Nat → Bool} {s : Stmt} {e a b c : Expr} {es : List Expr} {pos p2 : Pos}
/-! ### methods of a text with one argument -/
def isStr : Option D → Bool
  | some (.str _) => true
  | _ => false
def m1D (g : D → D → Option D) (f h : En → Out AR) : En → Out D := fun en => (f en).bind fun a en => if isStr (viewA en a) = true then (h en).bind fun b en => liftO ((viewA en a).bind fun x => (viewA en b).bind fun y => g x y) en else .bad
theorem de_m1 {r : V → List V → Hp → VK → Prop} {g : D → D → Option D} {f h : En → Out AR} (hr : Ok2 K (fun x y H Q => r x [y] H Q) g) (ha : DA X Wf K n P a f) (hb : DA X Wf K n P b h) (mk : ∀ i ta tb, PE (X i) a ta → PE (X i) b tb → PE (X i) e (tM1 r ta tb)) : DE X Wf K n P e (m1D g f h) := by
  obtain ⟨t, p, rd⟩ := ha.ex
  obtain ⟨t2, p2, rd2⟩ := hb.ex
  refine ⟨fun W => tM1 r (t W) (t2 W), fun i => mk i _ _ (p i) (p2 i), fun W S σ H en Q fi I Po => rd W S σ H en _ fi I ?_⟩
  unfold m1D at Po
  cases q : f en with
  | ok ar en1 =>
    rw [q, bind_ok] at Po
    intro v H1 tmp1 s1 J h1
    by_cases hs : isStr (viewA en1 ar) = true
    · rw [if_pos hs] at Po
      refine ⟨?_, rd2 W (S.w tmp1) σ H1 en1 _ ((fi.to I J rfl).w _) J ?_⟩
      · obtain ⟨Lv, op, k⟩ := ER.opn J
        unfold isStr at hs
        split at hs
        · rename_i x e1
          exact ⟨x, (op.arg h1 e1).1⟩
        · cases hs
      · cases q2 : h en1 with
        | ok br en2 =>
          rw [q2, bind_ok] at Po
          intro u H2 tmp2 s2 J2 h2
          obtain ⟨c, ec, Po⟩ := liftD Po
          obtain ⟨d, e1, ec⟩ := bind_some ec
          obtain ⟨d', e2, ec⟩ := bind_some ec
          obtain ⟨Lv, op, k⟩ := ER.opn J2
          exact hr H2 Lv v u d d' c Q op.mu (op.arg (h1.mono s2) e1) (op.arg h2 e2) ec fun v' H' g r => Po v' H' (ER.add k g r fun q h => s2 q (s1 q h))
        | ex C fs en' => rw [q2] at Po; exact PoX.w Po s1
        | bad => rw [q2] at Po; exact Po
    · rw [if_neg hs] at Po; exact Po.elim
  | ex C fs en' => rw [q] at Po; exact Po
  | bad => rw [q] at Po; exact Po
def countS : D → D → Option D
  | .str x, .str y => some (.int (Txt.count x y))
  | _, _ => none
theorem ok_count : Ok2 K (fun x y H Q => ∃ a b : Str, x = .str a ∧ [y] = [.str b] ∧ Q (.int (Txt.count a b)) H) countS := fun H Lv x y d e c Q mu r1 r2 ec q => by
  unfold countS at ec
  split at ec
  · cases ec
    exact ⟨_, _, r1.1, by rw [r2.1], q _ H Grow.refl rfl⟩
  · cases ec

/-! ### dicts, read -/
def keyK : D → Option Key
  | .int i => some (.inl i)
  | .str x => some (.inr x)
  | _ => none
def keyT : List D → Option (List Key)
  | [] => some []
  | d :: ds => match keyK d, keyT ds with
    | some k, some ks => some (k :: ks)
    | _, _ => none
def lookK {κ : Type} [DecidableEq κ] : List κ → List D → κ → Option D
  | k :: ks, d :: ds, j => if k = j then some d else lookK ks ds j
  | _, _, _ => none
/-- what the dict tells of the key -/
def getG : D → D → Option (Option D)
  | .dK ks ds, k => (keyK k).map (lookK ks ds)
  | .dT ks ds, .tup es => (keyT es).map (lookK ks ds)
  | _, _ => none
theorem keyK_ok {H : Hp} {Lv : Addr → Prop} {d : D} {v : V} {k : Key} (r : RepR K H Lv d v) (e : keyK d = some k) : v = kV k := by
  unfold keyK at e
  split at e
  · cases e; exact r
  · cases e; exact r.1
  · cases e
theorem keyT_ok {H : Hp} {Lv : Addr → Prop} : ∀ {ds : List D} {vs : List V} {ks : List Key}, RepL K H Lv ds vs → keyT ds = some ks → vs = ks.map kV
  | [], _, _, h, e => by cases e; exact h
  | d :: ds, _, _, ⟨v, ws, ev, r, hs⟩, e => by
    unfold keyT at e
    split at e
    · rename_i k ks e1 e2
      cases e
      rw [ev, keyK_ok r.root e1, keyT_ok hs e2]; rfl
    · cases e
/-- the value found stands for the data found -/
def RepO? (K : PySem.W.Frag) (H : Hp) (Lv : Addr → Prop) : Option D → Option V → Prop
  | some d, some v => Rep K H Lv d v
  | none, none => True
  | _, _ => False
theorem look_val {κ : Type} [DecidableEq κ] {H : Hp} {Lv : Addr → Prop} : ∀ {ks : List κ} {ds : List D} {vs : List V} (k : κ), RepL K H Lv ds vs → ks.length = ds.length → RepO? K H Lv (lookK ks ds k) (valV (ks.zip vs) k)
  | [], [], _, _, h, _ => by cases h; trivial
  | [], _ :: _, _, _, _, l => by cases l
  | _ :: _, [], _, _, _, l => by cases l
  | j :: ks, d :: ds, _, k, ⟨v, ws, ev, r, hs⟩, l => by
    subst ev
    by_cases q : j = k
    · have e1 : lookK (j :: ks) (d :: ds) k = some d := if_pos q
      have e2 : valV ((j :: ks).zip (v :: ws)) k = some v := by unfold valV; simp [q]
      rw [e1, e2]; exact r
    · have e1 : lookK (j :: ks) (d :: ds) k = lookK ks ds k := if_neg q
      have e2 : valV ((j :: ks).zip (v :: ws)) k = valV (ks.zip ws) k := by unfold valV; simp [q]
      rw [e1, e2]
      exact look_val k hs (by simpa using l)
theorem getG_ok {H : Hp} {Lv : Addr → Prop} {d e : D} {x y : V} {o : Option D} (r1 : RepR K H Lv d x) (r2 : RepR K H Lv e y) (h : getG d e = some o) : ∃ a ov, x = .ref a ∧ DGet H a y ov ∧ RepO? K H Lv o ov := by
  unfold getG at h
  split at h
  · rename_i ks ds
    obtain ⟨a, vs, rfl, hd, l, _, hs⟩ := r1
    cases z : keyK e with
    | none => rw [z] at h; cases h
    | some k =>
      rw [z] at h
      cases h
      exact ⟨a, valV (ks.zip vs) k, rfl, .inl ⟨_, k, hd, keyK_ok r2 z, rfl⟩, look_val k hs l⟩
  · rename_i ks ds es
    obtain ⟨a, vs, rfl, hd, l, _, hs⟩ := r1
    obtain ⟨b, us, rfl, hb, _, ht⟩ := r2
    cases z : keyT es with
    | none => rw [z] at h; cases h
    | some k =>
      rw [z] at h
      cases h
      exact ⟨a, valV (ks.zip vs) k, rfl, .inr ⟨_, k, b, hd, rfl, by rw [hb, keyT_ok ht z], rfl⟩, look_val k hs l⟩
  · cases h
def isDct : D → Bool
  | .dK _ _ => true
  | .dT _ _ => true
  | _ => false
theorem isDct_ok {H : Hp} {Lv : Addr → Prop} {d : D} {x : V} (r : RepR K H Lv d x) (h : isDct d = true) : ∃ a, x = .ref a ∧ IsD H a := by
  unfold isDct at h
  split at h
  · obtain ⟨a, vs, rfl, hd, _⟩ := r; exact ⟨a, rfl, .inl ⟨_, hd⟩⟩
  · obtain ⟨a, vs, rfl, hd, _⟩ := r; exact ⟨a, rfl, .inr ⟨_, hd⟩⟩
  · cases h
/-- d[k], the key being there -/
def dgetG (d e : D) : Option D := (getG d e).bind id
theorem ok_dget : Ok2 K (fun x y H Q => ∃ a v, x = .ref a ∧ DGet H a y (some v) ∧ Q v H) dgetG := fun H Lv x y d e c Q mu r1 r2 ec q => by
  obtain ⟨o, e1, e2⟩ := bind_some ec
  have e2 : o = some c := e2
  subst e2
  obtain ⟨a, ov, rfl, g, h⟩ := getG_ok r1 r2 e1
  cases ov with
  | none => exact h.elim
  | some v => exact ⟨a, v, rfl, g, q v H Grow.refl h⟩
/-- k in d -/
def dinG (e d : D) : Option D := (getG d e).map fun o => .bl o.isSome
def dnotinG (e d : D) : Option D := (getG d e).map fun o => .bl (!o.isSome)
theorem isSome_eq {H : Hp} {Lv : Addr → Prop} {o : Option D} {ov : Option V} (h : RepO? K H Lv o ov) : ov.isSome = o.isSome := by
  cases o <;> cases ov <;> first | rfl | exact h.elim
theorem ok_din : Ok2 K (fun y x H Q => ∃ a o, x = .ref a ∧ DGet H a y o ∧ Q (.bl o.isSome) H) dinG := fun H Lv y x e d c Q mu r2 r1 ec q => by
  unfold dinG at ec
  cases z : getG d e with
  | none => rw [z] at ec; cases ec
  | some o =>
    rw [z] at ec
    cases ec
    obtain ⟨a, ov, rfl, g, h⟩ := getG_ok r1 r2 z
    exact ⟨a, ov, rfl, g, by rw [isSome_eq h]; exact q _ H Grow.refl rfl⟩
theorem ok_dnotin : Ok2 K (fun y x H Q => ∃ a o, x = .ref a ∧ DGet H a y o ∧ Q (.bl (!o.isSome)) H) dnotinG := fun H Lv y x e d c Q mu r2 r1 ec q => by
  unfold dnotinG at ec
  cases z : getG d e with
  | none => rw [z] at ec; cases ec
  | some o =>
    rw [z] at ec
    cases ec
    obtain ⟨a, ov, rfl, g, h⟩ := getG_ok r1 r2 z
    exact ⟨a, ov, rfl, g, by rw [isSome_eq h]; exact q _ H Grow.refl rfl⟩
/-- d.get(k), d.get(k, z) -/
def isDctO : Option D → Bool
  | some d => isDct d
  | none => false
theorem getD_ok {H : Hp} {Lv : Addr → Prop} {o : Option D} {ov : Option V} {d : D} {v : V} (h : RepO? K H Lv o ov) (r : Rep K H Lv d v) : Rep K H Lv (o.getD d) (ov.getD v) := by
  cases o <;> cases ov <;> first | exact r | exact h | exact h.elim
def get1D (f h : En → Out AR) : En → Out D := fun en => (f en).bind fun a en => if isDctO (viewA en a) = true then (h en).bind fun b en => liftO ((viewA en a).bind fun x => (viewA en b).bind fun y => (getG x y).map (·.getD .non)) en else .bad
theorem de_get1 {f h : En → Out AR} (ha : DA X Wf K n P a f) (hb : DA X Wf K n P b h) (mk : ∀ i ta tb, PE (X i) a ta → PE (X i) b tb → PE (X i) e (tDGet1 ta tb)) : DE X Wf K n P e (get1D f h) := by
  obtain ⟨t, p, rd⟩ := ha.ex
  obtain ⟨t2, p2, rd2⟩ := hb.ex
  refine ⟨fun W => tDGet1 (t W) (t2 W), fun i => mk i _ _ (p i) (p2 i), fun W S σ H en Q fi I Po => rd W S σ H en _ fi I ?_⟩
  unfold get1D at Po
  cases q : f en with
  | ok ar en1 =>
    rw [q, bind_ok] at Po
    intro v H1 tmp1 s1 J h1
    by_cases hs : isDctO (viewA en1 ar) = true
    · rw [if_pos hs] at Po
      obtain ⟨Lv, op, k⟩ := ER.opn J
      cases e1 : viewA en1 ar with
      | none => rw [e1] at hs; cases hs
      | some d =>
        rw [e1] at hs
        obtain ⟨x, rfl, hx⟩ := isDct_ok (op.arg h1 e1) hs
        refine ⟨x, rfl, hx, rd2 W (S.w tmp1) σ H1 en1 _ ((fi.to I J rfl).w _) J ?_⟩
        cases q2 : h en1 with
        | ok br en2 =>
          rw [q2, bind_ok] at Po
          intro u H2 tmp2 s2 J2 h2
          obtain ⟨c, ec, Po⟩ := liftD Po
          obtain ⟨d, e1, ec⟩ := bind_some ec
          obtain ⟨d', e2, ec⟩ := bind_some ec
          obtain ⟨Lv, op, k⟩ := ER.opn J2
          cases z : getG d d' with
          | none => rw [z] at ec; cases ec
          | some o =>
            rw [z] at ec
            cases ec
            obtain ⟨a', ov, ea, g, h⟩ := getG_ok (op.arg (h1.mono s2) e1) (op.arg h2 e2) z
            cases ea
            exact ⟨ov, g, Po _ H2 (ER.add k Grow.refl (getD_ok h rfl) fun q h => s2 q (s1 q h))⟩
        | ex C fs en' => rw [q2] at Po; exact PoX.w Po s1
        | bad => rw [q2] at Po; exact Po
    · rw [if_neg hs] at Po; exact Po.elim
  | ex C fs en' => rw [q] at Po; exact Po
  | bad => rw [q] at Po; exact Po
def get2D (f h k : En → Out AR) : En → Out D := fun en => (f en).bind fun a en => if isDctO (viewA en a) = true then (h en).bind fun b en => (k en).bind fun c en => liftO ((viewA en a).bind fun x => (viewA en b).bind fun y => (frzA en c).bind fun z => (getG x y).map (·.getD z)) en else .bad
theorem de_get2 {f h k : En → Out AR} (ha : DA X Wf K n P a f) (hb : DA X Wf K n P b h) (hc : DA X Wf K n P c k) (mk : ∀ i ta tb tc, PE (X i) a ta → PE (X i) b tb → PE (X i) c tc → PE (X i) e (tDGet2 ta tb tc)) : DE X Wf K n P e (get2D f h k) := by
  obtain ⟨t, p, rd⟩ := ha.ex
  obtain ⟨t2, p2, rd2⟩ := hb.ex
  obtain ⟨t3, p3, rd3⟩ := hc.ex
  refine ⟨fun W => tDGet2 (t W) (t2 W) (t3 W), fun i => mk i _ _ _ (p i) (p2 i) (p3 i), fun W S σ H en Q fi I Po => rd W S σ H en _ fi I ?_⟩
  unfold get2D at Po
  cases q : f en with
  | ok ar en1 =>
    rw [q, bind_ok] at Po
    intro v H1 tmp1 s1 J h1
    by_cases hs : isDctO (viewA en1 ar) = true
    · rw [if_pos hs] at Po
      obtain ⟨Lv, op, kk⟩ := ER.opn J
      cases e1 : viewA en1 ar with
      | none => rw [e1] at hs; cases hs
      | some d =>
        rw [e1] at hs
        obtain ⟨x, rfl, hx⟩ := isDct_ok (op.arg h1 e1) hs
        refine ⟨x, rfl, hx, rd2 W (S.w tmp1) σ H1 en1 _ ((fi.to I J rfl).w _) J ?_⟩
        cases q2 : h en1 with
        | ok br en2 =>
          rw [q2, bind_ok] at Po
          intro u H2 tmp2 s2 J2 h2
          refine rd3 W (S.w tmp2) σ H2 en2 _ ((fi.to I J2 rfl).w _) J2 ?_
          cases q3 : k en2 with
          | ok cr en3 =>
            rw [q3, bind_ok] at Po
            intro w' H3 tmp3 s3 J3 h3
            obtain ⟨c, ec, Po⟩ := liftD Po
            obtain ⟨d, e1, ec⟩ := bind_some ec
            obtain ⟨d', e2, ec⟩ := bind_some ec
            obtain ⟨d3, e3, ec⟩ := bind_some ec
            obtain ⟨Lv, op, k⟩ := ER.opn J3
            cases z : getG d d' with
            | none => rw [z] at ec; cases ec
            | some o =>
              rw [z] at ec
              cases ec
              obtain ⟨a', ov, ea, g, h⟩ := getG_ok (op.arg (h1.mono fun q h => s3 q (s2 q h)) e1) (op.arg (h2.mono s3) e2) z
              cases ea
              exact ⟨ov, g, Po _ H3 (ER.add k Grow.refl (getD_ok h (op.argF h3 e3)) fun q h => s3 q (s2 q (s1 q h)))⟩
          | ex C fs en' => rw [q3] at Po; exact PoX.w Po fun q h => s2 q (s1 q h)
          | bad => rw [q3] at Po; exact Po
        | ex C fs en' => rw [q2] at Po; exact PoX.w Po s1
        | bad => rw [q2] at Po; exact Po
    · rw [if_neg hs] at Po; exact Po.elim
  | ex C fs en' => rw [q] at Po; exact Po
  | bad => rw [q] at Po; exact Po
end
end Dn
/-! Dicts made and written; zip, enumerate, texts walked. -/
namespace Dn
open PySem PySem.Spec PyProof.Rows L2

section
variable {K : PySem.W.Frag}
def replK {κ : Type} [DecidableEq κ] : List κ → List D → κ → D → List D
  | k :: ks, e :: ds, j, d => (if k = j then d else e) :: replK ks ds j d
  | _, _, _, _ => []
def putKs {κ : Type} [DecidableEq κ] (ks : List κ) (ds : List D) (k : κ) (d : D) : List κ × List D := if k ∈ ks then (ks, replK ks ds k d) else (ks ++ [k], ds ++ [d])
theorem replK_length {κ : Type} [DecidableEq κ] {k : κ} {d : D} : ∀ {ks : List κ} {ds : List D}, ks.length = ds.length → (replK ks ds k d).length = ks.length
  | [], [], _ => rfl
  | [], _ :: _, l => by cases l
  | _ :: _, [], l => by cases l
  | _ :: ks, _ :: ds, l => by
    show (replK ks ds k d).length + 1 = ks.length + 1
    rw [replK_length (by simpa using l)]
theorem repl_zip {κ : Type} [DecidableEq κ] {H : Hp} {Lv : Addr → Prop} {k : κ} {d : D} {v : V} (rv : Rep K H Lv d v) : ∀ {ks : List κ} {ds : List D} {vs : List V}, RepL K H Lv ds vs → ks.length = ds.length →
    ∃ ws, (ks.zip vs).map (fun kv => if kv.1 = k then (kv.1, v) else kv) = ks.zip ws ∧ RepL K H Lv (replK ks ds k d) ws
  | [], [], _, h, _ => ⟨[], by simp, rfl⟩
  | [], _ :: _, _, _, l => by cases l
  | _ :: _, [], _, _, l => by cases l
  | j :: ks, e :: ds, _, ⟨u, us, eu, ru, hs⟩, l => by
    subst eu
    obtain ⟨ws, e1, r1⟩ := repl_zip (k := k) rv hs (by simpa using l)
    by_cases q : j = k
    · refine ⟨v :: ws, ?_, v, ws, rfl, ?_, r1⟩
      · rw [List.zip_cons_cons, List.map_cons, e1, List.zip_cons_cons, if_pos q]
      · rw [if_pos q]; exact rv
    · refine ⟨u :: ws, ?_, u, ws, rfl, ?_, r1⟩
      · rw [List.zip_cons_cons, List.map_cons, e1, List.zip_cons_cons, if_neg q]
      · rw [if_neg q]; exact ru
theorem any_zip {κ : Type} [DecidableEq κ] {k : κ} : ∀ {ks : List κ} {vs : List V}, ks.length = vs.length → ((ks.zip vs).any fun kv => decide (kv.1 = k)) = decide (k ∈ ks)
  | [], _, _ => by simp
  | _ :: _, [], l => by cases l
  | j :: ks, v :: vs, l => by
    rw [List.zip_cons_cons, List.any_cons, any_zip (by simpa using l)]
    by_cases q : j = k
    · simp [q]
    · have : k ≠ j := fun z => q z.symm
      simp [q, this]
theorem zip_snoc {κ : Type} {k : κ} {v : V} : ∀ {ks : List κ} {vs : List V}, ks.length = vs.length → ks.zip vs ++ [(k, v)] = (ks ++ [k]).zip (vs ++ [v])
  | [], [], _ => rfl
  | [], _ :: _, l => by cases l
  | _ :: _, [], l => by cases l
  | j :: ks, w :: vs, l => by
    show (j, w) :: (ks.zip vs ++ [(k, v)]) = (j, w) :: ((ks ++ [k]).zip (vs ++ [v]))
    rw [zip_snoc (by simpa using l)]
theorem putKs_ok {κ : Type} [DecidableEq κ] {H : Hp} {Lv : Addr → Prop} {k : κ} {d : D} {v : V} (rv : Rep K H Lv d v) {ks : List κ} {ds : List D} {vs : List V} (hs : RepL K H Lv ds vs) (l : ks.length = ds.length) :
    ∃ ws, putK (ks.zip vs) k v = (putKs ks ds k d).1.zip ws ∧ (putKs ks ds k d).1.length = (putKs ks ds k d).2.length ∧ (putKs ks ds k d).1.length ≤ ks.length + 1 ∧ RepL K H Lv (putKs ks ds k d).2 ws := by
  have lv := hs.length
  unfold putK putKs
  rw [any_zip (by omega)]
  by_cases q : k ∈ ks
  · rw [if_pos q, if_pos (by simp [q])]
    obtain ⟨ws, e1, r1⟩ := repl_zip (k := k) rv hs l
    exact ⟨ws, e1, (replK_length l).symm, Nat.le_succ _, r1⟩
  · rw [if_neg q, if_neg (by simp [q])]
    refine ⟨vs ++ [v], zip_snoc (by omega), by simp [l], by simp, hs.append ⟨v, [], rfl, rv, rfl⟩⟩
/-- d[k] = v: dict, key, value -/
def putG : D → D → D → Option D
  | .dK ks ds, k, v => (keyK k).bind fun k => if ks.length < 16777216 then some (.dK (putKs ks ds k v).1 (putKs ks ds k v).2) else none
  | .dT ks ds, .tup es, v => (keyT es).bind fun k => if ks.length < 16777216 then some (.dT (putKs ks ds k v).1 (putKs ks ds k v).2) else none
  | _, _, _ => none
theorem putG_ok {H : Hp} {Lv : Addr → Prop} {d e f c : D} {a : Addr} {u : HO} {y v : V} (hu : H a = some u) (hc : RepC K H Lv u d) (r2 : RepR K H Lv e y) (rv : Rep K H Lv f v) (h : putG d e f = some c) : ∃ u', DPut H a y v (upd H a u') ∧ RepC K H Lv u' c := by
  unfold putG at h
  split at h
  · rename_i ks ds
    obtain ⟨k, e1, h⟩ := bind_some h
    by_cases q : ks.length < 16777216
    · rw [if_pos q] at h
      cases h
      cases u with
      | dK kvs =>
        obtain ⟨vs, rfl, l, _, hs⟩ := hc
        obtain ⟨ws, e2, l2, l3, r⟩ := putKs_ok (k := k) rv hs l
        refine ⟨.dK (putK (ks.zip vs) k v), .inl ⟨_, k, hu, keyK_ok r2 e1, ?_, rfl⟩, ws, e2, l2, ?_, r⟩
        · rw [List.length_zip, sizeLine_eq]; omega
        · rw [sizeLine_eq]; omega
      | _ => exact hc.elim
    · rw [if_neg q] at h; cases h
  · rename_i ks ds es
    obtain ⟨k, e1, h⟩ := bind_some h
    by_cases q : ks.length < 16777216
    · rw [if_pos q] at h
      cases h
      cases u with
      | dT kvs =>
        obtain ⟨vs, rfl, l, _, hs⟩ := hc
        obtain ⟨b, us, rfl, hb, _, ht⟩ := r2
        obtain ⟨ws, e2, l2, l3, r⟩ := putKs_ok (k := k) rv hs l
        refine ⟨.dT (putK (ks.zip vs) k v), .inr ⟨_, k, b, hu, rfl, by rw [hb, keyT_ok ht e1], ?_, rfl⟩, ws, e2, l2, ?_, r⟩
        · rw [List.length_zip, sizeLine_eq]; omega
        · rw [sizeLine_eq]; omega
      | _ => exact hc.elim
    · rw [if_neg q] at h; cases h
  · cases h
end

section
variable {ι : Type} {X : ι → Cx} {Wf : ι → WX} {K : PySem.W.Frag} {n : Nat} {P : Nat → Bool} {s : Stmt} {e a b c tg : Expr} {es : List Expr} {pos p2 : Pos}
def flAt (en : En) (j : Nat) : Option D := match en[j]? with
  | some (some (.fl d)) => some d
  | _ => none
theorem flAt_eq {en : En} {j : Nat} {d : D} (h : flAt en j = some d) : en[j]? = some (some (.fl d)) := by
  unfold flAt at h
  split at h
  · rename_i q; cases h; exact q
  · cases h
def dputE (j : Nat) (d : D) (en : En) : Option D → Option D → Out Fl
  | some dd, some k => match putG dd k d with
    | some dd' => .ok .nx (en.set j (some (.fl dd')))
    | none => .bad
  | _, _ => .bad
def dputD (j : Nat) (f : En → Out D) (g : En → Out AR) : En → Out Fl := fun en => match flAt en j with
  | none => .bad
  | some _ => (f en).bind fun d en => (g en).bind fun ar en => dputE j d en (flAt en j) (viewA en ar)
/-- d[k] = v, d an own dict in slot j -/
theorem ds_dput {j : Nat} {f : En → Out D} {g : En → Out AR} (he : DE X Wf K n P a f) (hi : DA X Wf K n P b g)
    (mk : ∀ i t t2, PE (X i) a t → PE (X i) b t2 → PS (X i) s (sDPut (tVar j) t2 t)) : DS X Wf K n P s (dputD j f g) := by
  obtain ⟨t, p, r⟩ := he.ex
  obtain ⟨t2, p2, r2⟩ := hi.ex
  refine ⟨fun W => sDPut (tVar j) (t2 W) (t W), fun i => mk i _ _ (p i) (p2 i), fun W S σ H en B fi I Po => ?_⟩
  unfold dputD at Po
  split at Po
  · exact Po.elim
  rename_i d0 q0
  obtain ⟨v0, hv0⟩ := Stt.slot I (flAt_eq q0)
  refine r W S σ H en _ fi I ?_
  cases q : f en with
  | ok d en1 =>
    rw [q, bind_ok] at Po
    intro v H1 J
    refine ⟨v0, hv0, r2 W (S.w ((d, v) :: S.tmp)) σ H1 en1 _ ((fi.to I J rfl).w _) J ?_⟩
    cases q2 : g en1 with
    | ok ar en2 =>
      rw [q2, bind_ok] at Po
      intro u H2 tmp2 s2 J2 h2
      cases q3 : flAt en2 j with
      | none => rw [q3] at Po; exact Po.elim
      | some dd =>
        cases q4 : viewA en2 ar with
        | none => rw [q3, q4] at Po; exact Po.elim
        | some k =>
          rw [q3, q4] at Po
          have Po : PoS K S W σ B (match putG dd k d with | some dd' => .ok .nx (en2.set j (some (.fl dd'))) | none => .bad) := Po
          cases q5 : putG dd k d with
          | none => rw [q5] at Po; exact Po.elim
          | some dd' =>
            rw [q5] at Po
            obtain ⟨Lv, ad, uu, op, hv, hu, hc, w⟩ := Stt.wr J2 (flAt_eq q3)
            rw [hv0] at hv
            cases hv
            obtain ⟨u', dp, hc'⟩ := putG_ok hu hc (op.arg h2 q4) (op.tm _ (s2 _ List.mem_cons_self)) q5
            exact ⟨ad, _, rfl, dp, Po σ _ rfl (ER.sub (w u' dd' hc') fun q hq => s2 q (List.mem_cons_of_mem _ hq))⟩
    | ex C fs en' => rw [q2] at Po; exact PoX.w Po.x fun q hq => List.mem_cons_of_mem _ hq
    | bad => rw [q2] at Po; exact Po
  | ex C fs en' => rw [q] at Po; exact Po.x
  | bad => rw [q] at Po; exact Po
/-- {} -/
theorem df_dnewK : DF X Wf K n P (.Dict [] [] pos) (fun en => .ok (.fl (.dK [] [])) en) := by
  refine ⟨fun _ => tDNewK, fun i => pe_dnewK, fun W S σ H en Q fi I Po => fun p hp => Po (.ref p) _ ?_⟩
  have N := ER.newO I (u := .dK []) (d := .dK [] []) hp fun Lv _ => ⟨[], rfl, rfl, by rw [sizeLine_eq]; exact Nat.zero_le _, rfl⟩
  rw [List.append_assoc, List.append_assoc] at N
  exact N
theorem df_dnewT : DF X Wf K n P (.Dict [] [] pos) (fun en => .ok (.fl (.dT [] [])) en) := by
  refine ⟨fun _ => tDNewT, fun i => pe_dnewT, fun W S σ H en Q fi I Po => fun p hp => Po (.ref p) _ ?_⟩
  have N := ER.newO I (u := .dT []) (d := .dT [] []) hp fun Lv _ => ⟨[], rfl, rfl, by rw [sizeLine_eq]; exact Nat.zero_le _, rfl⟩
  rw [List.append_assoc, List.append_assoc] at N
  exact N

/-! ### walks -/
theorem Stt.push {S : Su} {σ : L2.St} {H : Hp} {en : En} {tmp : List (D × V)} {as : List AR} {vs : List V} {ds : List D} (J : Stt K S σ H en tmp) (h : Holds σ tmp as vs) (e : frzAs en as = some ds) : Stt K S σ H en (ds.zip vs ++ tmp) := by
  obtain ⟨Lv, op, k⟩ := ER.opn J
  exact k H _ Grow.refl fun q hq => (List.mem_append.mp hq).elim (fun z => .inr ((op.argsF h e).zipmem q z)) .inl
def zipD : List D → List D → List D
  | x :: xs, y :: ys => .tup [x, y] :: zipD xs ys
  | _, _ => []
theorem zipD_length : ∀ {xs ys : List D}, (zipD xs ys).length = min xs.length ys.length
  | [], _ => by simp [zipD]
  | _ :: _, [] => by simp [zipD]
  | _ :: xs, _ :: ys => by simp [zipD, zipD_length, Nat.succ_min_succ]
theorem zipD_get : ∀ {xs ys : List D} {i : Nat} {d : D}, (zipD xs ys)[i]? = some d → ∃ x y, xs[i]? = some x ∧ ys[i]? = some y ∧ d = .tup [x, y]
  | [], _, _, _, h => by simp [zipD] at h
  | _ :: _, [], _, _, h => by simp [zipD] at h
  | x :: xs, y :: ys, 0, d, h => by cases h; exact ⟨x, y, rfl, rfl, rfl⟩
  | x :: xs, y :: ys, i + 1, d, h => by
    obtain ⟨x', y', e1, e2, e3⟩ := zipD_get (xs := xs) (ys := ys) (i := i) (by simpa [zipD] using h)
    exact ⟨x', y', by simpa using e1, by simpa using e2, e3⟩
theorem rep_pair {H : Hp} {Lv : Addr → Prop} {T : Addr} {x y : V} {d e : D} (hT : H T = none) (r1 : Rep K H Lv d x) (r2 : Rep K H Lv e y) : Rep K (upd H T (.tup [x, y])) Lv (.tup [d, e]) (.ref T) :=
  ⟨T, [x, y], rfl, upd_same, by rw [sizeLine_eq]; show 2 ≤ 16777216; omega, x, [y], rfl, r1.mono (Grow.upd hT).keep _ _, y, [], rfl, r2.mono (Grow.upd hT).keep _ _, rfl⟩
def zipItems (ds : List D) (en : En) : Out (List D) := match ds with
  | [.lst xs, .lst ys] => .ok (zipD xs ys) en
  | [.tup xs, .tup ys] => .ok (zipD xs ys) en
  | _ => .bad
def walkA (g : List D → En → Out (List D)) (f : En → Out (List AR)) : En → Out (List D) := fun en => (f en).bind fun as en => match frzAs en as with
  | some ds => g ds en
  | none => .bad
theorem di_zip {elts : List Expr} {kk : Nat} {tpos : Pos} {f : En → Out (List AR)} (hK : ∀ i, (X i).K = K) (hg : ∀ i, Gl (X i) "zip") (hm : ∀ i, (X i).mg "zip" = none) (h : DAs X Wf K n P [a, b] f)
    (hs : ∀ i, starEach [a, b] (X i).env = (false, eval a (X i).env) :: starEach [b] (X i).env := by intro _; rfl) (hpl : ∀ i, (backTo pos (starEach [b] (X i).env)).any (·.1) = false := by intro _; rfl) :
    DI X Wf K n P (.Tuple elts kk tpos) (.Call (.Name "zip" p2) [a, b] [] pos) (walkA zipItems f) := by
  obtain ⟨t, p, r⟩ := h.ex
  refine ⟨fun W => RZ.iZipA K (t W), fun i => by have := RZ.pi_zipA (elts := elts) (kk := kk) (tpos := tpos) (p := p2) (hg i) (hm i) (p i) (hs i) (hpl i); rw [hK i] at this; exact this, fun W S σ H en R fi I Po => r W S σ H en _ fi I ?_⟩
  unfold walkA at Po
  cases q : f en with
  | ok as en1 =>
    rw [q, bind_ok] at Po
    intro vs H1 tmp1 s1 J h1
    cases qv : frzAs en1 as with
    | none => rw [qv] at Po; exact Po.elim
    | some ds =>
      rw [qv] at Po
      have Po : PoI K S W σ R (zipItems ds en1) := Po
      have J2 := Stt.push J h1 qv
      obtain ⟨Lv, op, k⟩ := ER.opn J
      have rs := op.argsF h1 qv
      unfold zipItems at Po
      split at Po
      · rename_i xs ys _
        obtain ⟨va, us, e1, ra, vb, us2, e2, rb, e3⟩ := rs
        have e3 : us2 = [] := e3
        subst e3; subst e2; subst e1
        have ra' := ra
        have rb' := rb
        obtain ⟨ad, ws, rfl, _, hl, hz, hss⟩ := ra'
        obtain ⟨bd, ws2, rfl, _, hl2, hz2, hss2⟩ := rb'
        refine ⟨ad, bd, ws, ws2, rfl, .inl ⟨.inl (.inl hl), .inl (.inl hl2), Po _ H1 _ [(.lst xs, .ref ad), (.lst ys, .ref bd)] (fun q h => List.mem_append_right _ (s1 q h)) (fun q h => List.mem_append_left _ h) J2 ⟨fun i H' Lv' hi hw => ?_, fun H' Lv' hw => ?_, fun i H' Lv' x H2 d hd _ hw y => ?_⟩ ?_⟩⟩
        · obtain ⟨ad', vs', e', _, hl', _, hs'⟩ := hw (.lst xs, .ref ad) (by simp)
          cases e'
          obtain ⟨bd', vs2', e', _, hl2', _, hs2'⟩ := hw (.lst ys, .ref bd) (by simp)
          cases e'
          rw [zipD_length] at hi
          obtain ⟨x, hx, _⟩ := hs'.get (List.getElem?_eq_getElem (show i < xs.length by omega))
          obtain ⟨y, hy, _⟩ := hs2'.get (List.getElem?_eq_getElem (show i < ys.length by omega))
          exact ⟨vs', vs2', x, y, .inl (.inl hl'), .inl (.inl hl2'), hx, hy⟩
        · obtain ⟨ad', vs', e', _, hl', _, hs'⟩ := hw (.lst xs, .ref ad) (by simp)
          cases e'
          obtain ⟨bd', vs2', e', _, hl2', _, hs2'⟩ := hw (.lst ys, .ref bd) (by simp)
          cases e'
          refine ⟨vs', vs2', .inl (.inl hl'), .inl (.inl hl2'), ?_⟩
          rw [hs'.length, hs2'.length, zipD_length]
          omega
        · obtain ⟨ad', vs', e', _, hl', _, hs'⟩ := hw (.lst xs, .ref ad) (by simp)
          cases e'
          obtain ⟨bd', vs2', e', _, hl2', _, hs2'⟩ := hw (.lst ys, .ref bd) (by simp)
          cases e'
          obtain ⟨T, x1, y1, rfl, hT, rfl, k1, k2⟩ := y
          obtain ⟨dx, dy, g1, g2, rfl⟩ := zipD_get hd
          obtain ⟨x', hx, rx⟩ := hs'.get g1
          obtain ⟨y', hy, ry⟩ := hs2'.get g2
          have z1 := (k1 vs' (.inl (.inl hl'))).symm.trans hx
          have z2 := (k2 vs2' (.inl (.inl hl2'))).symm.trans hy
          cases z1
          cases z2
          exact ⟨Grow.upd hT, rep_pair hT rx ry⟩
        · rw [zipD_length]; omega
      · rename_i xs ys _
        obtain ⟨va, us, e1, ra, vb, us2, e2, rb, e3⟩ := rs
        have e3 : us2 = [] := e3
        subst e3; subst e2; subst e1
        have ra' := ra
        have rb' := rb
        obtain ⟨ad, ws, rfl, hl, hz, hss⟩ := ra'
        obtain ⟨bd, ws2, rfl, hl2, hz2, hss2⟩ := rb'
        refine ⟨ad, bd, ws, ws2, rfl, .inr ⟨.inl (.inl hl), .inl (.inl hl2), Po _ H1 _ [(.tup xs, .ref ad), (.tup ys, .ref bd)] (fun q h => List.mem_append_right _ (s1 q h)) (fun q h => List.mem_append_left _ h) J2 ⟨fun i H' Lv' hi hw => ?_, fun H' Lv' hw => ?_, fun i H' Lv' x H2 d hd _ hw y => ?_⟩ ?_⟩⟩
        · obtain ⟨ad', vs', e', hl', _, hs'⟩ := hw (.tup xs, .ref ad) (by simp)
          cases e'
          obtain ⟨bd', vs2', e', hl2', _, hs2'⟩ := hw (.tup ys, .ref bd) (by simp)
          cases e'
          rw [zipD_length] at hi
          obtain ⟨x, hx, _⟩ := hs'.get (List.getElem?_eq_getElem (show i < xs.length by omega))
          obtain ⟨y, hy, _⟩ := hs2'.get (List.getElem?_eq_getElem (show i < ys.length by omega))
          exact ⟨vs', vs2', x, y, .inl (.inl hl'), .inl (.inl hl2'), hx, hy⟩
        · obtain ⟨ad', vs', e', hl', _, hs'⟩ := hw (.tup xs, .ref ad) (by simp)
          cases e'
          obtain ⟨bd', vs2', e', hl2', _, hs2'⟩ := hw (.tup ys, .ref bd) (by simp)
          cases e'
          refine ⟨vs', vs2', .inl (.inl hl'), .inl (.inl hl2'), ?_⟩
          rw [hs'.length, hs2'.length, zipD_length]
          omega
        · obtain ⟨ad', vs', e', hl', _, hs'⟩ := hw (.tup xs, .ref ad) (by simp)
          cases e'
          obtain ⟨bd', vs2', e', hl2', _, hs2'⟩ := hw (.tup ys, .ref bd) (by simp)
          cases e'
          obtain ⟨T, x1, y1, rfl, hT, rfl, k1, k2⟩ := y
          obtain ⟨dx, dy, g1, g2, rfl⟩ := zipD_get hd
          obtain ⟨x', hx, rx⟩ := hs'.get g1
          obtain ⟨y', hy, ry⟩ := hs2'.get g2
          have z1 := (k1 vs' (.inl (.inl hl'))).symm.trans hx
          have z2 := (k2 vs2' (.inl (.inl hl2'))).symm.trans hy
          cases z1
          cases z2
          exact ⟨Grow.upd hT, rep_pair hT rx ry⟩
        · rw [zipD_length]; omega
      · exact Po.elim
  | ex C fs en' => rw [q] at Po; exact Po
  | bad => rw [q] at Po; exact Po
/-- (0, x), (1, y), .. -/
def enumD : Nat → List D → List D
  | _, [] => []
  | i, x :: xs => .tup [.int (i : Nat), x] :: enumD (i + 1) xs
theorem enumD_length : ∀ {xs : List D} {k : Nat}, (enumD k xs).length = xs.length
  | [], _ => rfl
  | _ :: xs, k => by simp [enumD, enumD_length]
theorem enumD_get : ∀ {xs : List D} {k i : Nat} {d : D}, (enumD k xs)[i]? = some d → ∃ x, xs[i]? = some x ∧ d = .tup [.int ((k + i : Nat) : Int), x]
  | [], _, _, _, h => by simp [enumD] at h
  | x :: xs, k, 0, d, h => by cases h; exact ⟨x, rfl, rfl⟩
  | x :: xs, k, i + 1, d, h => by
    obtain ⟨x', e1, e3⟩ := enumD_get (xs := xs) (k := k + 1) (i := i) (by simpa [enumD] using h)
    exact ⟨x', by simpa using e1, by rw [e3, show k + 1 + i = k + (i + 1) by omega]⟩
def enumItems (ds : List D) (en : En) : Out (List D) := match ds with
  | [.lst xs] => .ok (enumD 0 xs) en
  | _ => .bad
theorem di_enum {elts : List Expr} {kk : Nat} {tpos : Pos} {f : En → Out (List AR)} (hK : ∀ i, (X i).K = K) (hg : ∀ i, Gl (X i) "enumerate") (hm : ∀ i, (X i).mg "enumerate" = none) (h : DAs X Wf K n P [a] f)
    (hs : ∀ i, starEach [a] (X i).env = [(false, eval a (X i).env)] := by intro _; rfl) :
    DI X Wf K n P (.Tuple elts kk tpos) (.Call (.Name "enumerate" p2) [a] [] pos) (walkA enumItems f) := by
  obtain ⟨t, p, r⟩ := h.ex
  refine ⟨fun W => iEnum K (t W), fun i => by have := pi_enum (elts := elts) (kk := kk) (tpos := tpos) (p := p2) (pos := pos) (hg i) (hm i) (p i) (hs i); rw [hK i] at this; exact this, fun W S σ H en R fi I Po => r W S σ H en _ fi I ?_⟩
  unfold walkA at Po
  cases q : f en with
  | ok as en1 =>
    rw [q, bind_ok] at Po
    intro vs H1 tmp1 s1 J h1
    cases qv : frzAs en1 as with
    | none => rw [qv] at Po; exact Po.elim
    | some ds =>
      rw [qv] at Po
      have Po : PoI K S W σ R (enumItems ds en1) := Po
      have J2 := Stt.push J h1 qv
      obtain ⟨Lv, op, k⟩ := ER.opn J
      have rs := op.argsF h1 qv
      unfold enumItems at Po
      split at Po
      · rename_i xs _
        obtain ⟨va, us, e1, ra, e3⟩ := rs
        have e3 : us = [] := e3
        subst e3; subst e1
        have ra' := ra
        obtain ⟨ad, ws, rfl, _, hl, hz, hss⟩ := ra'
        refine ⟨ad, ws, rfl, .inl (.inl hl), Po _ H1 _ [(.lst xs, .ref ad)] (fun q h => List.mem_append_right _ (s1 q h)) (fun q h => List.mem_append_left _ h) J2 ⟨fun i H' Lv' hi hw => ?_, fun H' Lv' hw => ?_, fun i H' Lv' x H2 d hd _ hw y => ?_⟩ ?_⟩
        · obtain ⟨ad', vs', e', _, hl', _, hs'⟩ := hw (.lst xs, .ref ad) (by simp)
          cases e'
          rw [enumD_length] at hi
          obtain ⟨x, hx, _⟩ := hs'.get (List.getElem?_eq_getElem hi)
          exact ⟨vs', x, .inl (.inl hl'), hx⟩
        · obtain ⟨ad', vs', e', _, hl', _, hs'⟩ := hw (.lst xs, .ref ad) (by simp)
          cases e'
          exact ⟨vs', .inl (.inl hl'), by rw [hs'.length, enumD_length]; exact Nat.le_refl _⟩
        · obtain ⟨ad', vs', e', _, hl', _, hs'⟩ := hw (.lst xs, .ref ad) (by simp)
          cases e'
          obtain ⟨T, x1, rfl, hT, rfl, k1⟩ := y
          obtain ⟨dx, g1, rfl⟩ := enumD_get hd
          obtain ⟨x', hx, rx⟩ := hs'.get g1
          have z1 := (k1 vs' (.inl (.inl hl'))).symm.trans hx
          cases z1
          refine ⟨Grow.upd hT, ?_⟩
          have := rep_pair (K := K) (Lv := Lv') (d := .int ((0 + i : Nat) : Int)) (x := .int (i : Nat)) hT (by show V.int _ = V.int _; simp) rx
          exact this
        · rw [enumD_length]; exact hz
      · exact Po.elim
  | ex C fs en' => rw [q] at Po; exact Po
  | bad => rw [q] at Po; exact Po
/-- the signs of a text -/
def signsD (x : Str) : List D := x.cps.toList.map fun c => .str ⟨#[c]⟩
def strItems : D → En → Out (List D)
  | .str x, en => .ok (signsD x) en
  | _, _ => .bad
theorem di_str {f : En → Out D} (h : DE X Wf K n P e f) : DI X Wf K n P tg e (fun en => (f en).bind strItems) := by
  obtain ⟨t, p, r⟩ := h.ex
  refine ⟨fun W => iStr (t W), fun i => pi_str (p i), fun W S σ H en R fi I Po => r W S σ H en _ fi I ?_⟩
  cases q : f en with
  | ok d en1 =>
    rw [q, bind_ok] at Po
    intro v H1 J
    obtain ⟨Lv, op, k⟩ := ER.opn J
    have rd := op.tm _ List.mem_cons_self
    unfold strItems at Po
    split at Po
    · rename_i x
      obtain ⟨rfl, hz⟩ := rd
      refine ⟨x, rfl, Po _ H1 _ [] (fun q h => List.mem_cons_of_mem _ h) (fun q h => by cases h) J ⟨fun i H' Lv' hi hw => ?_, fun H' Lv' hw => ?_, fun i H' Lv' y H2 d hd _ hw yy => ?_⟩ ?_⟩
      · have : i < x.cps.size := by simpa [signsD] using hi
        exact this
      · show x.cps.size ≤ _
        simp [signsD]
      · obtain ⟨rfl, c, hc, rfl⟩ := yy
        refine ⟨Grow.refl, ?_⟩
        simp only [signsD, List.getElem?_map, Array.getElem?_toList, hc, Option.map_some, Option.some.injEq] at hd
        rw [← hd]
        exact ⟨rfl, by rw [sizeLine_eq]; show 1 ≤ 16777216; omega⟩
      · show (signsD x).length ≤ sizeLine
        simp only [signsD, List.length_map, Array.length_toList]
        exact hz
    · exact Po.elim
  | ex C fs en' => rw [q] at Po; exact Po
  | bad => rw [q] at Po; exact Po
end
end Dn
/-! enumerate of a tuple and of a text. -/
namespace Dn
open PySem PySem.Spec PyProof.Rows L2

abbrev enCell (it : Addr) : Obj := { cls := .type "enumerate", data := .fields #[.none, .bool false, .ref it, rawInt 0, .none, .none] }
set_option maxHeartbeats 2000000 in
theorem enNew {v : Value} {o : Obj} {G : Heap → Prop} (B : Begins v o G) :
    Meets (Builtin.«enumerate.__new__» ⟨[.type "enumerate", v], []⟩) (fun _ R s => G s.heap ∧ R (.ok (.ret (.ref (s.heap.push o).objs.size))) { s with heap := (s.heap.push o).push (enCell s.heap.objs.size) }) :=
  .of_wp fun prog w A R s h => by
    rcases s with ⟨hp, g, d, tk, os⟩
    rcases h with ⟨hG, h⟩
    have sub := sub_enumerate
    have it0 : ∀ {A' : Around} {E Q : Value → Shared → Prop}, Q (.ref hp.objs.size) ⟨hp.push o, g, d, tk, os⟩ → wpAny (model prog w) A' (pyIter v) Q E ⟨hp, g, d, tk, os⟩ := fun q => B.iter prog w _ _ _ _ hG q
    wp_walk using it0
    refine wpAny_stack_any fun _ => wpAny_pure ?_
    split
    · rename_i c _ _ _ _ _
      cases (c == Value.type "enumerate") <;> (wp_walk using it0; exact ⟨_, rfl, h⟩)
    · (wp_walk using it0; exact ⟨_, rfl, h⟩)
theorem enCall {prog : Program} {w : World} {A : Around} {E : Value → Shared → Prop} {s : Shared} {v : Value} {o : Obj} {G : Heap → Prop} {Q : Value → Shared → Prop} (B : Begins v o G) (hG : G s.heap)
    (h : ∀ h', IsEnum h' (s.heap.objs.size + 1) s.heap.objs.size 0 .none → h'.get? s.heap.objs.size = some o → (∀ b u, s.heap.get? b = some u → h'.get? b = some u) → Q (.ref (s.heap.objs.size + 1)) { s with heap := h' }) :
    wpAny (model prog w) A (call (.type "enumerate") [v]) Q E s := by
  refine callType_new F.called_enumerate (by decide) (F.typeCall_enumerate_1 _) (F.newCall_enumerate_1 _) (fun x => F.args_object_init_2 x _) F.entry_enumerate_new (enNew B) ⟨hG, ?_⟩
  have z : (s.heap.push o).objs.size = s.heap.objs.size + 1 := Heap.size_push ..
  have e : IsEnum ((s.heap.push o).push (enCell s.heap.objs.size)) (s.heap.objs.size + 1) s.heap.objs.size 0 .none := by
    have q := Heap.get?_push_size (s.heap.push o) (o := enCell s.heap.objs.size) rfl
    rw [z] at q; exact q
  show _ ∧ _
  rw [z]
  exact ⟨⟨_, e, rfl⟩, h _ e (Heap.get?_push_of_some _ (Heap.get?_push_size _ B.free)) fun b u x => Heap.get?_push_of_some _ (Heap.get?_push_of_some _ x)⟩

/-- the tuple at a, each item in a new pair with its number -/
def IenT (K : PySem.W.Frag) (a : Addr) : It where
  go i H := ∃ (xs : List V) (x : V), SqT K H a xs ∧ xs[i]? = some x
  yld i H v H' := ∃ T x, v = .ref T ∧ H T = none ∧ H' = upd H T (.tup [.int (i : Nat), x]) ∧ ∀ xs, SqT K H a xs → xs[i]? = some x
  stop i H := ∃ xs : List V, SqT K H a xs ∧ xs.length = i
/-- the text x, each sign in a new pair with its number -/
def IenS (x : Str) : It where
  go i _ := i < x.cps.size
  yld i H v H' := ∃ T c, v = .ref T ∧ H T = none ∧ H' = upd H T (.tup [.int (i : Nat), .str ⟨#[c]⟩]) ∧ x.cps[i]? = some c
  stop i _ := x.cps.size = i

/-- one step of an enumerate over what D draws: a new pair -/
theorem enStep {X : Cx} {pins : List (Addr × Obj)} {s : Shared} {σ : L2.St} {H : Hp} {E : Value → Shared → Prop} {elts : List Expr} {kk : Nat} {tpos : Pos} {e it : Addr} {fp : List Addr} {m i : Nat} {PP : Nat → Value → Prop} {St0 : Nat → Heap → Prop} {old : Value} {R : Option Value → Shared → Prop}
    (D : Draws X.prog X.w X.A.in1 it fp m PP St0) (I : Inv X pins σ H s) (hf : ∀ b ∈ [e, it], FpOk X pins H b) (he : IsEnum s.heap e it i old) (st : St0 i s.heap) (hi : i < m) (hne : e ≠ it) (hef : e ∉ fp) (val : ∀ u, PP i u → ∃ x, L2.RelV x u)
    (hR : ∀ (u : Value) (x : V) (T : Addr) (s2 : Shared), PP i u → L2.RelV x u → H T = none → Inv X pins σ (upd H T (.tup [.int (i : Nat), x])) s2 → IsEnum s2.heap e it ((i : Int) + 1) u → St0 (i + 1) s2.heap → (∀ b ∈ [e, it], upd H T (.tup [.int (i : Nat), x]) b = none) → R (some (.ref T)) s2) :
    wpAny (model X.prog X.w) X.A (pyNext (.ref e)) (fun r s1 => ∃ u, r = some u ∧ wpAny (model X.prog X.w) X.A (letOwnedTupleGo (.Tuple elts kk tpos) (.ref e) u) (fun _ s2 => R (some u) s2) E s1) E s := by
  have el : e < s.heap.objs.size := Heap.lt_size he
  have il : it < s.heap.objs.size := by obtain ⟨_, y⟩ := D.live _ _ st; exact Heap.lt_size y
  refine wpAny_pyNext_enum_itemD D he st hi hne hef fun u h' tk hu ho st' hT hz hk => ⟨_, rfl, ?_⟩
  obtain ⟨x, ru⟩ := val u hu
  refine wpAny_letOwnedTupleGo_enum (s := { s with heap := h', toks := tk + 1 }) ho fun h2 he2 sb => ?_
  have t2 : h2.get? s.heap.objs.size = some { cls := .type "tuple", data := .seq #[.int i tk, u] } := (sb.2 _ (Nat.ne_of_gt el)).trans hT
  have new : ObjOk X.prog X.w (upd H s.heap.objs.size (.tup [.int (i : Nat), x])) h2 s.heap.objs.size (.tup [.int (i : Nat), x]) :=
    ⟨by rw [sizeLine_eq]; show 2 ≤ 16777216; omega, [.int i tk, u], .cons ⟨_, rfl⟩ (.cons ru .nil), ⟨_, t2, rfl, _, rfl⟩⟩
  have J : Inv X pins σ (upd H s.heap.objs.size (.tup [.int (i : Nat), x])) { s with heap := h2, toks := tk + 1 } :=
    I.turnedNew (ch := [e, it]) (fun b o hb q => (sb.2 b (fun z => hb (by simp [z]))).trans (hk b o (fun z => hb (by simp [z])) (fun z => hb (by simp [z])) q)) hf (Nat.le_refl _) new
  refine hR u x _ _ hu ru (I.hok.fresh (Nat.le_refl _)) J he2 (D.frame _ _ _ st' fun b hb o y => (sb.2 b fun z => hef (z ▸ hb)).trans y) fun b hb => ?_
  have lt : b < s.heap.objs.size := by
    have z : b = e ∨ b = it := by simpa using hb
    rcases z with z | z <;> rw [z] <;> assumption
  rw [upd_ne (Nat.ne_of_lt lt)]
  exact (hf b hb).1

theorem enTurnT {Pg : Program} {w : World} {K : PySem.W.Frag} {elts : List Expr} {kk : Nat} {tpos : Pos} (a e it : Addr) :
    Turn Pg w K (.Tuple elts kk tpos) (IenT K a) [e, it] e (fun i h => (∃ old, IsEnum h e it ((i : Nat) : Int) old) ∧ h.IsTupleIter it a i ∧ e ≠ it ∧ e ≠ a ∧ a ≠ it) where
  mem := List.mem_cons_self
  obj := fun i h st b hb => by
    obtain ⟨⟨old, he⟩, ⟨o, ho, hc, hd⟩, _⟩ := st
    have z : b = e ∨ b = it := by simpa using hb
    rcases z with rfl | rfl
    · exact ⟨_, he, fun v q => nomatch q⟩
    · exact ⟨o, ho, fun v q => by rw [hd] at q; cases q⟩
  keep := fun i h h' st k => by
    obtain ⟨⟨old, he⟩, hi, r⟩ := st
    exact ⟨⟨old, k e (by simp) _ he⟩, hi.at fun o q => k it (by simp) o q, r⟩
  item := by
    intro X hP hw hK hc i pins s σ H E I hf st hg
    subst hP hw hK
    obtain ⟨⟨old, he⟩, hit, h1, h2, h3⟩ := st
    obtain ⟨xs, x, hq, hx⟩ := hg
    obtain ⟨its, rv, p, _⟩ := I.tuple hq
    have hi : i < its.toArray.size := by
      have := (List.getElem?_eq_some_iff.mp hx).1
      have l := rv.length
      simp only [List.size_toArray]; omega
    refine wpAny_mono (enStep (elts := elts) (kk := kk) (tpos := tpos) (Draws.tuple (A := X.A.in1) (I.ok.hd hc) it a h3 its.toArray) I hf he ⟨hit, p⟩ hi h1 (by simp [h1, h2]) (R := fun r s2 => ∃ x H', Inv X pins σ H' s2 ∧ (∃ u, r = some u ∧ L2.RelV x u) ∧ (IenT X.K a).yld i H x H' ∧ ((∃ old, IsEnum s2.heap e it ((i + 1 : Nat) : Int) old) ∧ s2.heap.IsTupleIter it a (i + 1) ∧ e ≠ it ∧ e ≠ a ∧ a ≠ it) ∧ ∀ b ∈ [e, it], H' b = none) ?_ ?_) ?_ fun _ _ z => z
    · intro u hu
      obtain ⟨y, ry⟩ : ∃ y, L2.RelV y u := by
        obtain ⟨u', hu', ru⟩ := rv.get hx
        have : its.toArray[i]? = some u' := by simpa using hu'
        have hu : its.toArray[i]? = some u := hu
        rw [this] at hu
        cases hu
        exact ⟨x, ru⟩
      exact ⟨y, ry⟩
    · intro u y T s2 hu ry hT J he2 st2 hn
      obtain ⟨u', hu', ru⟩ := rv.get hx
      have e1 : its.toArray[i]? = some u' := by simpa using hu'
      have hu : its.toArray[i]? = some u := hu
      rw [e1] at hu
      cases hu
      have exy : y = x := L2.RelV.inj ry ru
      subst exy
      refine ⟨.ref T, _, J, ⟨_, rfl, rfl⟩, ⟨T, y, rfl, hT, rfl, fun ys hy => by rw [I.tuple_inj hy hq]; exact hx⟩, ⟨⟨u, ?_⟩, st2.1, h1, h2, h3⟩, hn⟩
      have e2 : ((i + 1 : Nat) : Int) = (i : Int) + 1 := by omega
      rw [e2]; exact he2
    · rintro r s1 ⟨u, rfl, h⟩
      refine ⟨u, rfl, wpAny_mono h ?_ fun _ _ z => z⟩
      rintro _ s2 ⟨x, H', J, ⟨u', e, ru⟩, r⟩
      cases e
      exact ⟨x, H', J, ru, r⟩
  done := by
    intro X hP hw hK hc i pins s σ H E I hf st hg
    subst hP hw hK
    obtain ⟨⟨old, he⟩, hit, h1, h2, h3⟩ := st
    obtain ⟨xs, hq, hx⟩ := hg
    obtain ⟨its, rv, p, _⟩ := I.tuple hq
    obtain ⟨f0, f1, f2, f3, f4, f5⟩ := hf it (by simp)
    have l := rv.length
    have hs : i = its.toArray.size := by simp only [List.size_toArray]; omega
    exact wpAny_pyNext_enum_endD (Draws.tuple (A := X.A.in1) (I.ok.hd hc) it a h3 its.toArray) he ⟨hs ▸ hit, p⟩ fun h' eb => ⟨rfl, I.turned (t' := s.toks) (fun b o hb q => eb b o hb q) f0 f1 f3 f4 f5⟩
  self := fun A i s Q E st h => by
    obtain ⟨⟨_, he⟩, _⟩ := st
    exact wpAny_pyIter_enum he h
theorem enTurnS {Pg : Program} {w : World} {K : PySem.W.Frag} {elts : List Expr} {kk : Nat} {tpos : Pos} (e it : Addr) (x : Str) (t : Tok) :
    Turn Pg w K (.Tuple elts kk tpos) (IenS x) [e, it] e (fun i h => (∃ old, IsEnum h e it ((i : Nat) : Int) old) ∧ h.IsStrIter it (strIterType x) x t i ∧ e ≠ it) where
  mem := List.mem_cons_self
  obj := fun i h st b hb => by
    obtain ⟨⟨old, he⟩, ⟨o, ho, hc, hd⟩, _⟩ := st
    have z : b = e ∨ b = it := by simpa using hb
    rcases z with rfl | rfl
    · exact ⟨_, he, fun v q => nomatch q⟩
    · exact ⟨o, ho, fun v q => by rw [hd] at q; cases q⟩
  keep := fun i h h' st k => by
    obtain ⟨⟨old, he⟩, ⟨o, ho, q⟩, r⟩ := st
    exact ⟨⟨old, k e (by simp) _ he⟩, ⟨o, k it (by simp) o ho, q⟩, r⟩
  item := by
    intro X hP hw hK hc i pins s σ H E I hf st hg
    subst hP hw hK
    obtain ⟨⟨old, he⟩, hit, h1⟩ := st
    have hg : i < x.cps.size := hg
    refine wpAny_mono (enStep (elts := elts) (kk := kk) (tpos := tpos) (Draws.text (A := X.A.in1) (I.ok.hd hc) it x t) I hf he hit hg h1 (by simp [h1]) (R := fun r s2 => ∃ y H', Inv X pins σ H' s2 ∧ (∃ u, r = some u ∧ L2.RelV y u) ∧ (IenS x).yld i H y H' ∧ ((∃ old, IsEnum s2.heap e it ((i + 1 : Nat) : Int) old) ∧ s2.heap.IsStrIter it (strIterType x) x t (i + 1) ∧ e ≠ it) ∧ ∀ b ∈ [e, it], H' b = none) ?_ ?_) ?_ fun _ _ z => z
    · rintro u ⟨c, k, _, rfl⟩
      exact ⟨.str ⟨#[c]⟩, ⟨k, rfl⟩⟩
    · rintro u y T s2 ⟨c, k, hc', rfl⟩ ry hT J he2 st2 hn
      have exy : y = .str ⟨#[c]⟩ := L2.RelV.inj ry ⟨k, rfl⟩
      subst exy
      refine ⟨.ref T, _, J, ⟨_, rfl, rfl⟩, ⟨T, c, rfl, hT, rfl, hc'⟩, ⟨⟨.str ⟨#[c]⟩ k, ?_⟩, st2, h1⟩, hn⟩
      have e2 : ((i + 1 : Nat) : Int) = (i : Int) + 1 := by omega
      rw [e2]; exact he2
    · rintro r s1 ⟨u, rfl, h⟩
      refine ⟨u, rfl, wpAny_mono h ?_ fun _ _ z => z⟩
      rintro _ s2 ⟨y, H', J, ⟨u', e, ru⟩, r⟩
      cases e
      exact ⟨y, H', J, ru, r⟩
  done := by
    intro X hP hw hK hc i pins s σ H E I hf st hg
    subst hP hw hK
    obtain ⟨⟨old, he⟩, hit, h1⟩ := st
    obtain ⟨f0, f1, f2, f3, f4, f5⟩ := hf it (by simp)
    have hs : x.cps.size = i := hg
    exact wpAny_pyNext_enum_endD (Draws.text (A := X.A.in1) (I.ok.hd hc) it x t) he (hs ▸ hit) fun h' eb => ⟨rfl, I.turned (t' := s.toks) (fun b o hb q => eb b o hb q) f0 f1 f3 f4 f5⟩
  self := fun A i s Q E st h => by
    obtain ⟨⟨_, he⟩, _⟩ := st
    exact wpAny_pyIter_enum he h

def iEnA (K : PySem.W.Frag) (ta : TA) : TI := fun σ H R => ta σ H fun vs H1 => (∃ a xs, vs = [.ref a] ∧ SqT K H1 a xs ∧ R (IenT K a) H1) ∨ ∃ x, vs = [.str x] ∧ R (IenS x) H1
theorem pi_enA {X : Cx} {e : Expr} {ta : TA} {p pos tpos : Pos} {elts : List Expr} {kk : Nat} (hg : Gl X "enumerate") (hm : X.mg "enumerate" = none) (ha : PA X [e] ta) (hs : starEach [e] X.env = [(false, eval e X.env)] := by rfl) :
    PI X (.Tuple elts kk tpos) (.Call (.Name "enumerate" p) [e] [] pos) (iEnA X.K ta) := by
  constructor
  intro pins s σ H R I h
  refine Call_ (ld_blt I hg hm boot_enumerate (PyProof.Rows.callWith_type1 (thn (ha.run pos pins s σ H _ I h) fun us s1 ⟨vs, H1, I1, r1, q1⟩ => ?_) hs rfl))
  have fp : ∀ b ∈ [s1.heap.objs.size + 1, s1.heap.objs.size], FpOk X pins H1 b := fun b hb => by
    have hle : s1.heap.objs.size ≤ b := by
      have z : b = s1.heap.objs.size + 1 ∨ b = s1.heap.objs.size := by simpa using hb
      rcases z with rfl | rfl
      · exact Nat.le_succ _
      · exact Nat.le_refl _
    exact I1.fpOk hle (I1.hok.fresh hle)
  rcases q1 with ⟨a, xs, ex, hq, q⟩ | ⟨x, ex, q⟩
  · subst ex
    cases r1 with
    | cons r rr =>
      cases rr
      cases r
      obtain ⟨its, rv, p', _⟩ := I1.tuple hq
      have la : a < s1.heap.objs.size := by obtain ⟨o, ho, _⟩ := p'; exact Heap.lt_size ho
      refine enCall (begins_tuple a its.toArray) p' fun h' he hit hk => wpAny_pyIter_enum he ?_
      have I2 : Inv X pins σ H1 { s1 with heap := h' } := I1.kept (t' := s1.toks) hk
      exact ⟨_, _, _, _, H1, rfl, I2, enTurnT a (s1.heap.objs.size + 1) s1.heap.objs.size, ⟨⟨.none, he⟩, ⟨_, hit, rfl, rfl⟩, Nat.succ_ne_self _, Nat.ne_of_gt (Nat.lt_succ_of_lt la), Nat.ne_of_lt la⟩, fp, q⟩
  · subst ex
    cases r1 with
    | cons r rr =>
      cases rr
      obtain ⟨t, rfl⟩ := r
      refine enCall (begins_text x t) trivial fun h' he hit hk => wpAny_pyIter_enum he ?_
      have I2 : Inv X pins σ H1 { s1 with heap := h' } := I1.kept (t' := s1.toks) hk
      exact ⟨_, _, _, _, H1, rfl, I2, enTurnS (s1.heap.objs.size + 1) s1.heap.objs.size x t, ⟨⟨.none, he⟩, ⟨_, hit, rfl, rfl⟩, Nat.succ_ne_self _⟩, fp, q⟩
end Dn
/-! Dict comprehensions, keys of any form that a dict takes. -/
namespace Dn
open PySem PySem.Spec PyProof.Rows L2

/-- what a comprehension stores -/
theorem dcStore {X : Cx} {pins : List (Addr × Obj)} {σ : L2.St} {H H' : Hp} {s : Shared} {E : Value → Shared → Prop} {a : Addr} {y v : V} {u r : Value} {Q : Unit → Shared → Prop} (hu : X.A.units + 1 < cLine) (I : Inv X pins σ H s) (g : DPut H a y v H')
    (ry : L2.RelV y u) (rv : L2.RelV v r) (h : ∀ s', Inv X pins σ H' s' → Q () s') : wpAny (model X.prog X.w) X.A (dictSet a u r) Q E s := by
  rcases g with ⟨kvs, k, e, rfl, l, rfl⟩ | ⟨kvs, k, b, e, rfl, eb, l, rfl⟩
  · exact d_dictSet I e l ry rv h
  · cases (show u = Value.ref b from ry)
    have D0 := dt_of I.hok e
    have hl := (length_putK kvs k v)
    obtain ⟨z, hd, xs, rel, dd⟩ := D0
    refine wpAny_dictSet_heap (hsz := by rw [← Paired.length rel]; exact z) (show (tupleKind (mixKind X.prog X.w)).room X.A by exact Nat.lt_of_succ_lt hu) (key_of I.hok eb) dd fun h' dd' hs => h _ ?_
    rcases dd' with ⟨q, es, ep, hq, h2, h3, h4, _, h5⟩
    have still : ∀ c ys, H c = some (.tup ys) → upd H a (.dT (putK kvs k v)) c = some (.tup ys) := fun c ys ec => by
      rw [upd_ne (ne_of ec e fun z => nomatch z)]; exact ec
    exact d_write I (by rw [e]; exact True.intro) hs ⟨q, hq⟩ ⟨by omega, hd, _, (rel.put k eb rv).keeps still, q, es, ep, hq, h2, h3, h4, h5⟩

/-- {k: v for tg in iter if ..}, from the empty dict u0 on -/
def tDcP (u0 : HO) (wi : TI) (g : TG) (tt : TT) (tk tv : TE) (vs : List Nat) : TE := fun σ H Q => wi σ H fun J H1 => ∀ D, H1 D = none →
  ∃ M : Nat → Nat → Hp → Prop, (∃ m, M 0 m (upd H1 D u0)) ∧ ∀ i m Hc, M i m Hc → (J.stop i Hc ∧ Q (.ref D) Hc) ∨
    (J.go i Hc ∧ ∃ Nx : Hp → Prop, (∀ H', Nx H' → ∃ m', m' < m ∧ M (i + 1) m' H') ∧ ∀ x H', J.yld i Hc x H' →
      g x (wipe σ vs) H' fun σ2 H2 => wipe σ2 vs = wipe σ vs ∧ tt σ2 H2 fun b H3 => if b = true then tk σ2 H3 fun y H4 => tv σ2 H4 fun z H5 => ∃ H6, DPut H5 D y z H6 ∧ Nx H6 else Nx H3)
section
variable {X : Cx} {kx vx tg iter : Expr} {ifs : List Expr} {scope : Scope} {own : List (Str × Nat)} {pos : Pos} {wi : TI} {g : TG} {tt : TT} {tk tv : TE} {u0 : HO}
theorem pe_dcP (hu : X.A.units + 1 < cLine) (h0 : u0 = .dK [] ∨ u0 = .dT []) (hc : X.calm = true) (hN : X.N.Nodup) (hi : PI X tg iter wi) (ok : BlkOk X.N X.env.scope scope own)
    (hg : ∀ s H C cl fp, PG (X.blk s H scope (compEnvC scope cl C X.env) fp) tg g) (ht : ∀ s H C cl fp, PTs (X.blk s H scope (compEnvC scope cl C X.env) fp) ifs tt)
    (hk : ∀ s H C cl fp, PE (X.blk s H scope (compEnvC scope cl C X.env) fp) kx tk) (he : ∀ s H C cl fp, PE (X.blk s H scope (compEnvC scope cl C X.env) fp) vx tv) (hs : ∀ x, foldedSetIterable iter X.env x = pure x := by intro _; rfl) :
    PE X (.DictComp kx vx [⟨tg, iter, ifs, 0⟩] scope pos) (tDcP u0 wi g tt tk tv (own.map (·.2))) := by
  constructor
  intro pins s σ H Q I h
  rw [arm_eval_DictComp]
  have free : ∀ y ∈ scope.names, y.2 = .free → ∃ c, X.env.cells.lookup y.1 = some c := fun y hy e => (ok.free y hy e).elim (fun k => I.ok.has _ (.inl k)) fun k => I.ok.has _ (.inr k)
  refine wpAny_comprehension_free (use := none) rfl hs (closure_ok free) ok.kind (fun y hy e => by rw [ok.uniq y hy, e]) (thn (hi.run pins s σ H _ I h) fun xv s1 hx => thn hx fun itv s2 h2 => ?_)
  obtain ⟨it, fp, tn, J, H2, rfl, I2, T, st2, f2, q⟩ := h2
  refine wpAny_newObj_type (newEnv_comp ?_)
  -- the dict, new at D
  generalize hD : s2.heap.objs.size = D
  obtain ⟨M, ⟨m0, w0⟩, turn⟩ := q D (I2.hok.fresh (Nat.le_of_eq hD))
  generalize hs3 : (⟨s2.heap.push { cls := .type "dict", data := .dict #[] }, s2.gens, s2.drawn, s2.toks, s2.os⟩ : Shared) = s3
  have h3 : s3.heap = s2.heap.push { cls := .type "dict", data := .dict #[] } := by rw [← hs3]
  obtain ⟨H3, hH3⟩ : ∃ H3 : Hp, upd H2 D u0 = H3 := ⟨_, rfl⟩
  have I3 : Inv X pins σ H3 s3 := by
    rw [← hs3, ← hH3]
    refine I2.laid (t' := s2.toks) (fun b o e => Heap.get?_push_of_some _ e) (Nat.le_of_eq hD) ?_
    rw [← hD]
    rcases h0 with rfl | rfl
    · exact dk_empty s2.heap I2.big
    · exact dt_empty s2.heap I2.big
  have small : ∀ b ∈ fp, b < s2.heap.objs.size := fun b hb => let ⟨_, e, _⟩ := T.obj _ _ st2 b hb; Heap.lt_size e
  have f3 : ∀ b ∈ fp, FpOk X pins H3 b ∧ b < s3.heap.objs.size := fun b hb => by
    refine ⟨⟨?_, (f2 b hb).2⟩, by rw [h3, Heap.size_push]; exact Nat.lt_succ_of_lt (small b hb)⟩
    rw [← hH3, upd_ne (by rw [← hD]; exact Nat.ne_of_lt (small b hb))]
    exact (f2 b hb).1
  have I4 := block_start I3 ok hN f3
  show codeAny _ _ (.compStart (.DictComp kx vx [⟨tg, iter, ifs, 0⟩] scope pos) 0 (.ref it) (.ref D) (compEnvC scope (cellsFrom (s3.heap.objs.size + 1) scope.names (cloFrom X.env.cells scope.names [])) s3.heap.objs.size X.env)) (compPost (model X.prog X.w) X.A X.xe none (EP X pins σ Q) (.ref D) s3.heap.objs.size) { s3 with heap := pushCells (s3.heap.push { cls := .type "dict", data := .dict #[] }) scope.names }
  generalize hcl : cellsFrom (s3.heap.objs.size + 1) scope.names (cloFrom X.env.cells scope.names []) = cl at I4 ⊢
  have pg := hg s3 H3 s3.heap.objs.size cl fp
  have pt := ht s3 H3 s3.heap.objs.size cl fp
  have pk := hk s3 H3 s3.heap.objs.size cl fp
  have pe := he s3 H3 s3.heap.objs.size cl fp
  obtain ⟨ce, hce⟩ : ∃ ce, compEnvC scope cl s3.heap.objs.size X.env = ce := ⟨_, rfl⟩
  rw [hce] at I4 pg pt pk pe ⊢
  have cL : ce.locals = s3.heap.objs.size := by rw [← hce]; rfl
  rw [hH3] at w0
  obtain ⟨s4, hs4⟩ : ∃ s4 : Shared, { s3 with heap := pushCells (s3.heap.push { cls := .type "dict", data := .dict #[] }) scope.names } = s4 := ⟨_, rfl⟩
  rw [hs4] at I4 ⊢
  have st4 : tn 0 s4.heap := T.keep _ _ _ st2 fun b _ o e => by rw [← hs4]; exact pushCells_keeps _ _ _ _ (Heap.get?_push_of_some _ (by rw [h3]; exact Heap.get?_push_of_some _ e))
  have stat : ∀ {τ : L2.St} {Hx : Hp} {sx : Shared}, Inv (X.blk s3 H3 scope ce fp) [] τ Hx sx → (∀ b ∈ fp, Hx b = none) → ∀ b ∈ fp, FpOk (X.blk s3 H3 scope ce fp) [] Hx b := fun {τ Hx sx} Ix nx b hb =>
    ⟨nx b hb, (Ix.ok.exf b hb).1, Ix.ok.exfs b hb, .inl hb, fun x c e => (Ix.ok.exf b hb).2 x c e, fun p hp => absurd (show p ∈ ([] : List (Addr × Obj)) ++ [] from hp) (by simp)⟩
  have loop : codeAny (model X.prog X.w) X.A (.compLoop (.DictComp kx vx [⟨tg, iter, ifs, 0⟩] scope pos) 0 (.ref it) (.ref D) ce) (compPost (model X.prog X.w) X.A X.xe none (EP X pins σ Q) (.ref D) s3.heap.objs.size) s4 := by
    refine compLoop_anyD (fun n sx => ∃ i Hx, Inv (X.blk s3 H3 scope ce fp) [] (wipe σ (own.map (·.2))) Hx sx ∧ tn i sx.heap ∧ (∀ b ∈ fp, Hx b = none) ∧ M i n Hx) ?_ m0 ⟨0, H3, I4, st4, fun b hb => (f3 b hb).1.1, w0⟩
    rintro n s5 ⟨i, H5, I5, st5, n5, w5⟩
    rcases turn i n H5 w5 with ⟨stop, qq⟩ | ⟨go, Nx, hNx, step⟩
    · refine thnF (T.done (X.blk s3 H3 scope ce fp) rfl rfl rfl hc i [] s5 _ H5 (fun _ _ => False) I5 (stat I5 n5) st5 stop) fun r s6 ⟨hr, I6⟩ => ?_
      subst hr
      have I7 : Inv X pins σ H5 s6 := I3.call' (ch := fp) I6.os I6.base I6.hok I6.bare fun b hb => let f := (f3 b hb).1.2; ⟨f.2.2.1, f.1, f.2.2.2.1, f.2.2.2.2⟩
      have nC : H5 s3.heap.objs.size = none := by rw [← cL]; exact I6.free
      obtain ⟨m, hn, _⟩ := I6.loc
      have hn : s6.heap.Ns ce.locals m := hn
      rw [cL] at hn
      refine ⟨m, hn, fun hh sb => ?_⟩
      obtain ⟨g0, g1, g2, g3, g4, g5⟩ := I3.fpOk (Nat.le_refl _) nC
      exact ⟨.ref D, H5, I7.turned (t' := s6.toks) (fun b o hb e => (sb.2 b hb).trans e) g0 g1 g3 g4 g5, rfl, qq⟩
    · refine thnF (T.item (X.blk s3 H3 scope ce fp) rfl rfl rfl hc i [] s5 _ H5 (fun _ _ => False) I5 (stat I5 n5) st5 go) fun r s6 ⟨u, hr, h6⟩ => ?_
      subst hr
      refine thnF h6 fun _ s7 ⟨x, H7, I7, r7, y7, st7, n7⟩ => ?_
      refine thnF (pg.run _ s7 _ H7 x u _ (I7.pinned (stat I7 n7) (T.obj _ _ st7)) r7 (step x H7 y7)) fun _ s8 ⟨σ8, H8, I8, hw8, q8⟩ => thnF (pt.run _ s8 σ8 H8 _ I8 q8) fun b s9 ⟨H9, I9, q9⟩ => ?_
      have fin : ∀ {sx : Shared} {Hx : Hp}, Inv (X.blk s3 H3 scope ce fp) ([] ++ pinsAt fp s7.heap) σ8 Hx sx → Nx Hx → ∃ m, m < n ∧ ∃ i Hx, Inv (X.blk s3 H3 scope ce fp) [] (wipe σ (own.map (·.2))) Hx sx ∧ tn i sx.heap ∧ (∀ b ∈ fp, Hx b = none) ∧ M i m Hx := fun {sx Hx} Ix nx => by
        obtain ⟨m', hm, w'⟩ := hNx Hx nx
        have pin' : ∀ b ∈ fp, ∀ o, s7.heap.get? b = some o → sx.heap.get? b = some o ∧ Hx b = none := fun b hb o e => by
          have z := Ix.pin (b, o) (List.mem_append_right _ (List.mem_append_right _ (mem_pinsAt hb e)))
          exact ⟨z.1, z.2.1⟩
        refine ⟨m', hm, i + 1, Hx, (Ix.unpinned (pins := [])).weak (by rw [← hw8, wipe_length]) (fun j v e => by rw [← hw8] at e; exact (wipe_some e).1), T.keep _ _ _ st7 fun b hb o e => (pin' b hb o e).1, fun b hb => ?_, w'⟩
        obtain ⟨o, e, _⟩ := T.obj _ _ st7 b hb
        exact (pin' b hb o e).2
      cases b with
      | false => exact fin I9 q9
      | true => exact thnF (pk.run _ s9 σ8 H9 _ I9 q9) fun z s10 ⟨yk, H10, I10, r10, q10⟩ => thnF (pe.run _ s10 σ8 H10 _ I10 q10) fun z2 s11 ⟨yv, H11, I11, r11, H12, dp, nx⟩ => dcStore (X := X.blk s3 H3 scope ce fp) hu I11 dp r10 r11 fun s12 I12 => fin I12 nx
  exact codeAny_compStart_dict loop (T.self X.A 0 _ _ _ st4 loop)
end
end Dn
/-! Dict comprehensions over data; enumerate of tuples and texts. -/
namespace Dn
open PySem PySem.Spec PyProof.Rows L2

section
variable {ι : Type} {X : ι → Cx} {Wf : ι → WX} {K : PySem.W.Frag} {n : Nat} {P : Nat → Bool} {s : Stmt} {ss : List Stmt} {e a b tg kx vx iter : Expr} {es ifs : List Expr} {pos p2 : Pos}
def dcompD (asg : D → En → Option En) (tt : En → Out Bool) (fk f : En → Out D) (vs : List Nat) : List D → D → En → Out D
  | [], acc, en => .ok acc en
  | d :: ds, acc, en => match asg d (wipeE en vs) with
    | none => .bad
    | some en1 => match tt en1 with
      | .ok true en2 => match fk en2 with
        | .ok k en3 => match f en3 with
          | .ok y en4 => match putG acc k y with
            | some acc' => dcompD asg tt fk f vs ds acc' en4
            | none => .bad
          | _ => .bad
        | _ => .bad
      | .ok false en2 => dcompD asg tt fk f vs ds acc en2
      | _ => .bad
def dcF (d0 : D) (it : En → Out (List D)) (asg : D → En → Option En) (tt : En → Out Bool) (fk f : En → Out D) (vs : List Nat) : En → Out O := fun en => (it en).bind fun ds en => (dcompD asg tt fk f vs ds d0 en).bind fun acc en => .ok (.fl acc) (wipeE en vs)
theorem dc_run {u0 : HO} {d0 : D} {it : En → Out (List D)} {asg : D → En → Option En} {tt : En → Out Bool} {fk f : En → Out D} {vs sl : List Nat} {g : TG} {tT : WX → TT} {tk te : WX → TE} {ti : WX → TI}
    (h0 : ∀ H Lv, RepC K H Lv u0 d0) (hw : ∀ v ∈ vs, v < n ∧ P v = false) (hsl : ∀ v ∈ sl, v ∈ vs)
    (ri : ∀ (W : WX) (S : Su) σ H en R, Fine n P S en → Stt K S σ H en S.tmp → PoI K S W σ R (it en) → ti W σ H R)
    (rg : ∀ (S : Su) σ H en d x Q, Fine n P S en → Stt K S σ H en ((d, x) :: S.tmp) → (match asg d en with | none => False | some en' => ∀ σ' H', σ'.length = σ.length → (∀ j, j ∉ sl → σ'[j]? = σ[j]?) → Stt K S σ' H' en' S.tmp → Q σ' H') → g x σ H Q)
    (rt : ∀ (W : WX) (S : Su) σ H en Q, Fine n P S en → Stt K S σ H en S.tmp → PoT K S W σ Q (tt en) → tT W σ H Q)
    (rk : ∀ (W : WX) (S : Su) σ H en Q, Fine n P S en → Stt K S σ H en S.tmp → PoE K S W σ Q (fk en) → tk W σ H Q)
    (re : ∀ (W : WX) (S : Su) σ H en Q, Fine n P S en → Stt K S σ H en S.tmp → PoE K S W σ Q (f en) → te W σ H Q)
    {W : WX} {S : Su} {σ : L2.St} {H : Hp} {en : En} {Q : VK} (fi : Fine n P S en) (I : Stt K S σ H en S.tmp) (Po : PoF K S W σ Q (dcF d0 it asg tt fk f vs en)) : tDcP u0 (ti W) g (tT W0) (tk W0) (te W0) vs σ H Q := by
  refine ri W S σ H en _ fi I ?_
  unfold dcF at Po
  cases q : it en with
  | bad => rw [q] at Po; exact Po
  | ex C fs en' => rw [q] at Po; exact Po
  | ok ds en1 =>
    rw [q, bind_ok] at Po
    intro J H1 tmp1 wq s1 sw I1 wk hz D hD
    have f1 := fi.to I I1 rfl
    have pins : ∀ q ∈ S.F.pn, q.1 ∉ vs := fun q hq z => by
      have := (hw q.1 z).2
      rw [(fi.pin q hq).2] at this; cases this
    have hl1 := Stt.len I1
    have wl : ∀ v ∈ vs, v < en1.length := fun v hv => by rw [f1.len]; exact (hw v hv).1
    have I2 : ER K S.F (L2.wipe σ vs ++ (S.xv ++ [some (.ref D)])) (upd H1 D u0) (wipeE en1 vs ++ (S.xo ++ [some (.fl d0)])) tmp1 := by
      have z := (ER.wipe I1 pins wl hl1).newO (p := D) (u := u0) (d := d0) hD fun Lv _ => h0 H1 Lv
      rw [List.append_assoc, List.append_assoc] at z
      exact z
    refine ⟨fun i m H' => m = ds.length - i ∧ i ≤ ds.length ∧ ∃ acc en', en'.length = n ∧ ER K S.F (L2.wipe σ vs ++ (S.xv ++ [some (.ref D)])) H' (wipeE en' vs ++ (S.xo ++ [some (.fl acc)])) tmp1 ∧
      PoF K S W σ Q ((dcompD asg tt fk f vs (ds.drop i) acc en').bind fun acc en => .ok (.fl acc) (wipeE en vs)), ⟨ds.length, by simp, Nat.zero_le _, d0, en1, f1.len, I2, Po⟩, ?_⟩
    rintro i m H' ⟨rfl, hi', acc, en', le', J', Pj⟩
    obtain ⟨Lv, op, k⟩ := J'.opn
    have hwq : ∀ q ∈ wq, Rep K H' Lv q.1 q.2 := fun q hq => op.tm q (sw q hq)
    by_cases hlt : i < ds.length
    · refine .inr ⟨wk.go i H' Lv hlt hwq, fun H2 => i + 1 ≤ ds.length ∧ ∃ acc en', en'.length = n ∧ ER K S.F (L2.wipe σ vs ++ (S.xv ++ [some (.ref D)])) H2 (wipeE en' vs ++ (S.xo ++ [some (.fl acc)])) tmp1 ∧
        PoF K S W σ Q ((dcompD asg tt fk f vs (ds.drop (i + 1)) acc en').bind fun acc en => .ok (.fl acc) (wipeE en vs)), fun H2 h => ⟨_, by omega, rfl, h⟩, fun x H2 y => ?_⟩
      obtain ⟨gr, rx⟩ := wk.yld i H' Lv x H2 ds[i] (List.getElem?_eq_getElem hlt) op.mu hwq y
      rw [List.drop_eq_getElem_cons hlt, dcompD] at Pj
      let S2 : Su := S.c (some (.ref D)) (some (.fl acc)) tmp1
      have J2 : Stt K S2 (L2.wipe σ vs) H2 (wipeE en' vs) ((ds[i], x) :: tmp1) := k H2 _ gr fun q hq => (List.mem_cons.mp hq).elim (fun z => .inr (by rw [z]; exact rx)) .inl
      have fw : Fine n P S2 (wipeE en' vs) := ⟨by rw [wipeE_length]; exact le', fi.pin⟩
      refine rg S2 (L2.wipe σ vs) H2 (wipeE en' vs) ds[i] x _ fw J2 ?_
      cases qa : asg ds[i] (wipeE en' vs) with
      | none => rw [qa] at Pj; exact Pj.elim
      | some en2 =>
        rw [qa] at Pj
        intro σ3 H3 l3 ne3 J3
        have f3 := fw.to J2 J3 l3
        have wp : L2.wipe σ3 vs = L2.wipe σ vs := by
          have l4 : σ3.length = σ.length := by rw [l3, wipe_length]
          refine wipe_eq l4 fun j hj => ?_
          rw [ne3 j fun z => hj (hsl j z), wipe_at hj]
        refine ⟨wp, rt W0 S2 σ3 H3 en2 _ f3 J3 ?_⟩
        cases q2 : tt en2 with
        | bad => simp only [q2] at Pj; exact Pj.elim
        | ex C fs en3 => simp only [q2] at Pj; exact Pj.elim
        | ok bb en3 =>
          simp only [q2] at Pj
          intro H4 J4
          have f4 := f3.to J3 J4 rfl
          have again : ∀ {H6 : Hp} {en6 : En} {acc6 : Dn.D}, Stt K (S.c (some (.ref D)) (some (.fl acc6)) tmp1) σ3 H6 en6 tmp1 → en6.length = n → ER K S.F (L2.wipe σ vs ++ (S.xv ++ [some (.ref D)])) H6 (wipeE en6 vs ++ (S.xo ++ [some (.fl acc6)])) tmp1 := fun {H6 en6 acc6} J6 l6 => by
            rw [← wp]
            exact ER.wipe J6 pins (fun v hv => by rw [l6]; exact (hw v hv).1) (Stt.len J6)
          cases bb with
          | false => exact ⟨hlt, acc, en3, f4.len, again J4 f4.len, Pj⟩
          | true =>
            refine rk W0 S2 σ3 H4 en3 _ f4 J4 ?_
            have Pj : PoF K S W σ Q (Out.bind (match fk en3 with | .ok k en3 => (match f en3 with | .ok y en4 => (match putG acc k y with | some acc' => dcompD asg tt fk f vs (ds.drop (i + 1)) acc' en4 | none => .bad) | _ => .bad) | _ => .bad) fun acc en => .ok (.fl acc) (wipeE en vs)) := Pj
            cases q3 : fk en3 with
            | bad => rw [q3] at Pj; exact Pj.elim
            | ex C fs en4 => rw [q3] at Pj; exact Pj.elim
            | ok kk en4 =>
              rw [q3] at Pj
              intro yk H5 J5
              have f5 := f4.to J4 (ER.pop J5) rfl
              refine re W0 (S2.w ((kk, yk) :: tmp1)) σ3 H5 en4 _ (f5.w _) J5 ?_
              have Pj : PoF K S W σ Q (Out.bind (match f en4 with | .ok y en4 => (match putG acc kk y with | some acc' => dcompD asg tt fk f vs (ds.drop (i + 1)) acc' en4 | none => .bad) | _ => .bad) fun acc en => .ok (.fl acc) (wipeE en vs)) := Pj
              cases q4 : f en4 with
              | bad => rw [q4] at Pj; exact Pj.elim
              | ex C fs en5 => rw [q4] at Pj; exact Pj.elim
              | ok y en5 =>
                rw [q4] at Pj
                intro v H6 J6
                have f6 := f5.to (ER.pop J5) (ER.pop (ER.pop J6)) rfl
                have Pj : PoF K S W σ Q (Out.bind (match putG acc kk y with | some acc' => dcompD asg tt fk f vs (ds.drop (i + 1)) acc' en5 | none => .bad) fun acc en => .ok (.fl acc) (wipeE en vs)) := Pj
                cases q5 : putG acc kk y with
                | none => rw [q5] at Pj; exact Pj.elim
                | some acc' =>
                  rw [q5] at Pj
                  have lx := S.xl
                  have l5 := Stt.len J6
                  have cell : (en5 ++ (S.xo ++ [some (O.fl acc)]))[en5.length + S.xo.length]? = some (some (.fl acc)) := by
                    rw [← List.append_assoc, List.getElem?_append_right (by simp)]; simp
                  obtain ⟨Lv5, a5, u5, op5, hv5, hu5, _, hc5, wr⟩ := ER.wr (i := en5.length + S.xo.length) J6 cell
                  have ea : a5 = D := by
                    have : (σ3 ++ (S.xv ++ [some (V.ref D)]))[en5.length + S.xo.length]? = some (some (.ref D)) := by
                      rw [← List.append_assoc, ← lx, ← l5, List.getElem?_append_right (by simp)]; simp
                    rw [show (σ3 ++ (S2.w ((kk, yk) :: tmp1)).xv) = (σ3 ++ (S.xv ++ [some (V.ref D)])) from rfl, this] at hv5
                    cases hv5; rfl
                  subst ea
                  obtain ⟨u', dp, hc'⟩ := putG_ok hu5 hc5 (op5.tm (kk, yk) (List.mem_cons_of_mem _ List.mem_cons_self)).root (op5.tm (y, v) List.mem_cons_self) q5
                  refine ⟨_, dp, hlt, acc', en5, f6.len, ?_, Pj⟩
                  have nw := wr u' acc' hc'
                  have se : (en5 ++ (S.xo ++ [some (O.fl acc)])).set (en5.length + S.xo.length) (some (.fl acc')) = en5 ++ (S.xo ++ [some (.fl acc')]) := by
                    rw [← List.append_assoc, List.set_append_right _ _ (by simp), ← List.append_assoc]; simp
                  rw [show (en5 ++ (S2.w ((kk, yk) :: tmp1)).xo) = (en5 ++ (S.xo ++ [some (O.fl acc)])) from rfl, se] at nw
                  exact again (acc6 := acc') (nw.pop.pop) f6.len
    · have hzz : i = ds.length := by omega
      subst hzz
      rw [List.drop_length, dcompD] at Pj
      refine .inl ⟨wk.stop H' Lv hwq, Pj (.ref D) H' ?_⟩
      have J7 := J'.sub s1
      have l7 : σ.length = en'.length := by rw [le', ← fi.len]; exact Stt.len I
      refine J7.irr (by simp [wipe_length]) (fun j o e => ?_) (fun q hq => ?_)
      · by_cases hj : j < en'.length
        · rw [List.getElem?_append_left (by rw [wipeE_length]; exact hj)] at e
          rw [List.getElem?_append_left (by rw [l7]; exact hj), List.getElem?_append_left (by rw [wipe_length, l7]; exact hj), wipe_at (wipeE_some e).1]
        · rw [List.getElem?_append_right (l₁ := σ) (by rw [l7]; omega), List.getElem?_append_right (l₁ := L2.wipe σ vs) (by rw [wipe_length, l7]; omega), wipe_length]
      · have := J7.pin q hq
        have lq := (fi.pin q hq).1
        rw [List.getElem?_append_left (by rw [wipe_length, l7, le']; exact lq), wipe_at (pins q hq)] at this
        rw [List.getElem?_append_left (by rw [l7, le']; exact lq)]
        exact this
/-- keys whole numbers or texts (t = false), or tuples of these -/
def dc0 (t : Bool) : D := if t = true then .dT [] [] else .dK [] []
theorem df_dc {t : Bool} {it : En → Out (List D)} {asg : D → En → Option En} {tt : En → Out Bool} {fk f : En → Out D} {sl : List Nat} {scope : Scope} {own : List (Str × Nat)}
    (hu : ∀ i, (X i).A.units + 1 < cLine) (hc : ∀ i, (X i).calm = true) (hN : ∀ i, (X i).N.Nodup) (ok : ∀ i, BlkOk (X i).N (X i).env.scope scope own) (hw : ∀ v ∈ own.map (·.2), v < n ∧ P v = false) (hsl : ∀ v ∈ sl, v ∈ own.map (·.2))
    (hi : DI X Wf K n P tg iter it) (hg : DG (blkF X scope) K n P tg sl asg) (ht : DTs (blkF X scope) (fun _ => W0) K n P ifs tt) (hk : DE (blkF X scope) (fun _ => W0) K n P kx fk) (he : DE (blkF X scope) (fun _ => W0) K n P vx f)
    (hs : ∀ i x, foldedSetIterable iter (X i).env x = pure x := by intro _ _; rfl) : DF X Wf K n P (.DictComp kx vx [⟨tg, iter, ifs, 0⟩] scope pos) (dcF (dc0 t) it asg tt fk f (own.map (·.2))) := by
  obtain ⟨ti, pi, ri⟩ := hi.ex
  obtain ⟨g, pg, rg⟩ := hg.ex
  obtain ⟨tT, pt, rt⟩ := ht.ex
  obtain ⟨tk, pk, rk⟩ := hk.ex
  obtain ⟨te, pe, re⟩ := he.ex
  refine ⟨fun W => tDcP (if t = true then .dT [] else .dK []) (ti W) g (tT W0) (tk W0) (te W0) (own.map (·.2)), fun i => pe_dcP (hu i) (by cases t <;> simp) (hc i) (hN i) (pi i) (ok i) (fun s H C cl fp => pg (i, s, H, C, cl, fp)) (fun s H C cl fp => pt (i, s, H, C, cl, fp)) (fun s H C cl fp => pk (i, s, H, C, cl, fp)) (fun s H C cl fp => pe (i, s, H, C, cl, fp)) (hs i),
    fun W S σ H en Q fi I Po => dc_run (fun H Lv => ?_) hw hsl ri rg rt rk re fi I Po⟩
  cases t
  · exact ⟨[], rfl, rfl, by rw [sizeLine_eq]; exact Nat.zero_le _, rfl⟩
  · exact ⟨[], rfl, rfl, by rw [sizeLine_eq]; exact Nat.zero_le _, rfl⟩

/-! ### enumerate of a tuple, of a text -/
def enumItemsA (ds : List D) (en : En) : Out (List D) := match ds with
  | [.tup xs] => .ok (enumD 0 xs) en
  | [.str x] => .ok (enumD 0 (signsD x)) en
  | _ => .bad
theorem di_enumA {elts : List Expr} {kk : Nat} {tpos : Pos} {f : En → Out (List AR)} (hK : ∀ i, (X i).K = K) (hg : ∀ i, Gl (X i) "enumerate") (hm : ∀ i, (X i).mg "enumerate" = none) (h : DAs X Wf K n P [a] f)
    (hs : ∀ i, starEach [a] (X i).env = [(false, eval a (X i).env)] := by intro _; rfl) :
    DI X Wf K n P (.Tuple elts kk tpos) (.Call (.Name "enumerate" p2) [a] [] pos) (walkA enumItemsA f) := by
  obtain ⟨t, p, r⟩ := h.ex
  refine ⟨fun W => iEnA K (t W), fun i => by have := pi_enA (elts := elts) (kk := kk) (tpos := tpos) (p := p2) (pos := pos) (hg i) (hm i) (p i) (hs i); rw [hK i] at this; exact this, fun W S σ H en R fi I Po => r W S σ H en _ fi I ?_⟩
  unfold walkA at Po
  cases q : f en with
  | ok as en1 =>
    rw [q, bind_ok] at Po
    intro vs H1 tmp1 s1 J h1
    cases qv : frzAs en1 as with
    | none => rw [qv] at Po; exact Po.elim
    | some ds =>
      rw [qv] at Po
      have Po : PoI K S W σ R (enumItemsA ds en1) := Po
      have J2 := Stt.push J h1 qv
      obtain ⟨Lv, op, k⟩ := ER.opn J
      have rs := op.argsF h1 qv
      unfold enumItemsA at Po
      split at Po
      · rename_i xs _
        obtain ⟨va, us, e1, ra, e3⟩ := rs
        have e3 : us = [] := e3
        subst e3; subst e1
        have ra' := ra
        obtain ⟨ad, ws, rfl, hl, hz, hss⟩ := ra'
        refine .inl ⟨ad, ws, rfl, .inl (.inl hl), Po _ H1 _ [(.tup xs, .ref ad)] (fun q h => List.mem_append_right _ (s1 q h)) (fun q h => List.mem_append_left _ h) J2 ⟨fun i H' Lv' hi hw => ?_, fun H' Lv' hw => ?_, fun i H' Lv' x H2 d hd _ hw y => ?_⟩ ?_⟩
        · obtain ⟨ad', vs', e', hl', _, hs'⟩ := hw (.tup xs, .ref ad) (by simp)
          cases e'
          rw [enumD_length] at hi
          obtain ⟨x, hx, _⟩ := hs'.get (List.getElem?_eq_getElem hi)
          exact ⟨vs', x, .inl (.inl hl'), hx⟩
        · obtain ⟨ad', vs', e', hl', _, hs'⟩ := hw (.tup xs, .ref ad) (by simp)
          cases e'
          exact ⟨vs', .inl (.inl hl'), by rw [hs'.length, enumD_length]⟩
        · obtain ⟨ad', vs', e', hl', _, hs'⟩ := hw (.tup xs, .ref ad) (by simp)
          cases e'
          obtain ⟨T, x1, rfl, hT, rfl, k1⟩ := y
          obtain ⟨dx, g1, rfl⟩ := enumD_get hd
          obtain ⟨x', hx, rx⟩ := hs'.get g1
          have z1 := (k1 vs' (.inl (.inl hl'))).symm.trans hx
          cases z1
          exact ⟨Grow.upd hT, rep_pair (K := K) (Lv := Lv') (d := .int ((0 + i : Nat) : Int)) (x := .int (i : Nat)) hT (by show V.int _ = V.int _; simp) rx⟩
        · rw [enumD_length]; exact hz
      · rename_i x _
        obtain ⟨va, us, e1, ra, e3⟩ := rs
        have e3 : us = [] := e3
        subst e3; subst e1
        obtain ⟨rfl, hz⟩ := ra
        have ls : (signsD x).length = x.cps.size := by simp [signsD]
        refine .inr ⟨x, rfl, Po _ H1 _ [] (fun q h => List.mem_append_right _ (s1 q h)) (fun q h => by cases h) J2 ⟨fun i H' Lv' hi hw => ?_, fun H' Lv' hw => ?_, fun i H' Lv' y H2 d hd _ hw yy => ?_⟩ ?_⟩
        · rw [enumD_length, ls] at hi
          exact hi
        · show x.cps.size = _
          rw [enumD_length, ls]
        · obtain ⟨T, c, rfl, hT, rfl, hc⟩ := yy
          obtain ⟨dx, g1, rfl⟩ := enumD_get hd
          have e2 : dx = .str ⟨#[c]⟩ := by
            simp only [signsD, List.getElem?_map, Array.getElem?_toList, hc, Option.map_some, Option.some.injEq] at g1
            exact g1.symm
          subst e2
          exact ⟨Grow.upd hT, rep_pair (K := K) (Lv := Lv') (d := .int ((0 + i : Nat) : Int)) (x := .int (i : Nat)) hT (by show V.int _ = V.int _; simp) ⟨rfl, by rw [sizeLine_eq]; show 1 ≤ 16777216; omega⟩⟩
        · rw [enumD_length, ls]; exact hz
      · exact Po.elim
  | ex C fs en' => rw [q] at Po; exact Po
  | bad => rw [q] at Po; exact Po
end
end Dn
/-! List comprehensions of two fors. -/
namespace Dn
open PySem PySem.Spec PyProof.Rows L2

theorem wipeE_at {en : En} {i : Nat} : ∀ {ws : List Nat}, i ∉ ws → (wipeE en ws)[i]? = en[i]?
  | [], _ => rfl
  | w :: ws, h => by
    show ((wipeE en ws).set w none)[i]? = _
    rw [List.getElem?_set_ne (fun z => h (by simp [z]))]
    exact wipeE_at fun z => h (List.mem_cons_of_mem _ z)
theorem wipeE_in {en : En} {i : Nat} : ∀ {ws : List Nat}, i ∈ ws → i < en.length → (wipeE en ws)[i]? = some none
  | [], h, _ => by cases h
  | w :: ws, h, l => by
    show ((wipeE en ws).set w none)[i]? = _
    by_cases z : w = i
    · subst z
      rw [List.getElem?_set_self (by rw [wipeE_length]; exact l)]
    · rw [List.getElem?_set_ne z]
      rcases List.mem_cons.mp h with q | q
      · exact absurd q.symm z
      · exact wipeE_in q l
/-- wiping some slots ahead of wiping them all is nothing -/
theorem wipeE_two {en : En} {vs vs1 : List Nat} (h : ∀ i ∈ vs1, i ∈ vs) : wipeE (wipeE en vs1) vs = wipeE en vs := by
  refine List.ext_getElem? fun i => ?_
  by_cases q : i ∈ vs
  · by_cases l : i < en.length
    · rw [wipeE_in q (by rw [wipeE_length]; exact l), wipeE_in q l]
    · rw [List.getElem?_eq_none (by rw [wipeE_length, wipeE_length]; omega), List.getElem?_eq_none (by rw [wipeE_length]; omega)]
  · rw [wipeE_at q, wipeE_at q, wipeE_at fun z => q (h i z)]
theorem wipe_two {σ : L2.St} {vs vs1 : List Nat} (h : ∀ i ∈ vs1, i ∈ vs) : L2.wipe (L2.wipe σ vs1) vs = L2.wipe σ vs :=
  wipe_eq (wipe_length _ _) fun j hj => wipe_at fun z => hj (h j z)
def compB (asg : D → En → Option En) (tt : En → Out Bool) (f : En → Out D) (vs : List Nat) : List D → List D → En → Out (List D)
  | [], acc, en => .ok acc en
  | d :: ds, acc, en => match asg d (wipeE en vs) with
    | none => .bad
    | some en1 => match tt en1 with
      | .ok true en2 => match f en2 with
        | .ok y en3 => if acc.length < 16777216 then compB asg tt f vs ds (acc ++ [y]) en3 else .bad
        | _ => .bad
      | .ok false en2 => compB asg tt f vs ds acc en2
      | _ => .bad
def comp2D (asg : D → En → Option En) (tt : En → Out Bool) (it1 : En → Out (List D)) (asg1 : D → En → Option En) (tt1 : En → Out Bool) (f : En → Out D) (vs vs1 : List Nat) : List D → List D → En → Out (List D)
  | [], acc, en => .ok acc en
  | d :: ds, acc, en => match asg d (wipeE en vs) with
    | none => .bad
    | some en1 => match tt en1 with
      | .ok true en2 => match it1 en2 with
        | .ok ds1 en3 => match compB asg1 tt1 f vs1 ds1 acc en3 with
          | .ok acc' en4 => comp2D asg tt it1 asg1 tt1 f vs vs1 ds acc' en4
          | _ => .bad
        | _ => .bad
      | .ok false en2 => comp2D asg tt it1 asg1 tt1 f vs vs1 ds acc en2
      | _ => .bad
def lc2F (it : En → Out (List D)) (asg : D → En → Option En) (tt : En → Out Bool) (it1 : En → Out (List D)) (asg1 : D → En → Option En) (tt1 : En → Out Bool) (f : En → Out D) (vs vs1 : List Nat) : En → Out O :=
  fun en => (it en).bind fun ds en => (comp2D asg tt it1 asg1 tt1 f vs vs1 ds [] en).bind fun acc en => .ok (.fl (.lst acc)) (wipeE en vs)
section
variable {ι : Type} {X : ι → Cx} {Wf : ι → WX} {K : PySem.W.Frag} {n : Nat} {P : Nat → Bool} {s : Stmt} {tg tg1 elt iter iter1 : Expr} {ifs ifs1 : List Expr} {pos : Pos}
def lcOut (vs : List Nat) : List D → En → Out O := fun acc en => .ok (.fl (.lst acc)) (wipeE en vs)
theorem lc2_run {it it1 : En → Out (List D)} {asg asg1 : D → En → Option En} {tt tt1 : En → Out Bool} {f : En → Out D} {vs sl vs1 sl1 : List Nat} {g g1 : TG} {tT tT1 : WX → TT} {te : WX → TE} {ti ti1 : WX → TI}
    (hw : ∀ v ∈ vs, v < n ∧ P v = false) (hsl : ∀ v ∈ sl, v ∈ vs) (hv1 : ∀ v ∈ vs1, v ∈ vs) (hsl1 : ∀ v ∈ sl1, v ∈ vs1)
    (ri : ∀ (W : WX) (S : Su) σ H en R, Fine n P S en → Stt K S σ H en S.tmp → PoI K S W σ R (it en) → ti W σ H R)
    (rg : ∀ (S : Su) σ H en d x Q, Fine n P S en → Stt K S σ H en ((d, x) :: S.tmp) → (match asg d en with | none => False | some en' => ∀ σ' H', σ'.length = σ.length → (∀ j, j ∉ sl → σ'[j]? = σ[j]?) → Stt K S σ' H' en' S.tmp → Q σ' H') → g x σ H Q)
    (rt : ∀ (W : WX) (S : Su) σ H en Q, Fine n P S en → Stt K S σ H en S.tmp → PoT K S W σ Q (tt en) → tT W σ H Q)
    (ri1 : ∀ (W : WX) (S : Su) σ H en R, Fine n P S en → Stt K S σ H en S.tmp → PoI K S W σ R (it1 en) → ti1 W σ H R)
    (rg1 : ∀ (S : Su) σ H en d x Q, Fine n P S en → Stt K S σ H en ((d, x) :: S.tmp) → (match asg1 d en with | none => False | some en' => ∀ σ' H', σ'.length = σ.length → (∀ j, j ∉ sl1 → σ'[j]? = σ[j]?) → Stt K S σ' H' en' S.tmp → Q σ' H') → g1 x σ H Q)
    (rt1 : ∀ (W : WX) (S : Su) σ H en Q, Fine n P S en → Stt K S σ H en S.tmp → PoT K S W σ Q (tt1 en) → tT1 W σ H Q)
    (re : ∀ (W : WX) (S : Su) σ H en Q, Fine n P S en → Stt K S σ H en S.tmp → PoE K S W σ Q (f en) → te W σ H Q)
    {W : WX} {S : Su} {σ : L2.St} {H : Hp} {en : En} {Q : VK} (fi : Fine n P S en) (I : Stt K S σ H en S.tmp) (Po : PoF K S W σ Q (lc2F it asg tt it1 asg1 tt1 f vs vs1 en)) : tLc2 (ti W) g (tT W0) (ti1 W0) g1 (tT1 W0) (te W0) vs vs1 σ H Q := by
  refine ri W S σ H en _ fi I ?_
  have Po : PoF K S W σ Q ((it en).bind fun ds en => (comp2D asg tt it1 asg1 tt1 f vs vs1 ds [] en).bind (lcOut vs)) := Po
  cases q : it en with
  | bad => rw [q] at Po; exact Po
  | ex C fs en' => rw [q] at Po; exact Po
  | ok ds en1 =>
    rw [q, bind_ok] at Po
    intro J H1 tmp1 wq s1 sw I1 wk hz D hD
    have f1 := fi.to I I1 rfl
    have pins : ∀ q ∈ S.F.pn, q.1 ∉ vs := fun q hq z => by
      have := (hw q.1 z).2
      rw [(fi.pin q hq).2] at this; cases this
    have pins1 : ∀ q ∈ S.F.pn, q.1 ∉ vs1 := fun q hq z => pins q hq (hv1 _ z)
    have hl1 := Stt.len I1
    have wl : ∀ v ∈ vs, v < en1.length := fun v hv => by rw [f1.len]; exact (hw v hv).1
    have I2 : ER K S.F (L2.wipe σ vs ++ (S.xv ++ [some (.ref D)])) (upd H1 D (.lst [])) (wipeE en1 vs ++ (S.xo ++ [some (.fl (.lst []))])) tmp1 := by
      have z := (ER.wipe I1 pins wl hl1).newO (p := D) (u := .lst []) (d := .lst []) hD fun Lv _ => ⟨Nat.zero_le _, rfl⟩
      rw [List.append_assoc, List.append_assoc] at z
      exact z
    refine ⟨fun i m H' => m = ds.length - i ∧ i ≤ ds.length ∧ ∃ acc en', en'.length = n ∧ ER K S.F (L2.wipe σ vs ++ (S.xv ++ [some (.ref D)])) H' (wipeE en' vs ++ (S.xo ++ [some (.fl (.lst acc))])) tmp1 ∧
      PoF K S W σ Q ((comp2D asg tt it1 asg1 tt1 f vs vs1 (ds.drop i) acc en').bind (lcOut vs)), ⟨ds.length, by simp, Nat.zero_le _, [], en1, f1.len, I2, Po⟩, ?_⟩
    rintro i m H' ⟨rfl, hi', acc, en', le', J', Pj⟩
    obtain ⟨Lv, op, k⟩ := J'.opn
    have hwq : ∀ q ∈ wq, Rep K H' Lv q.1 q.2 := fun q hq => op.tm q (sw q hq)
    by_cases hlt : i < ds.length
    · refine .inr ⟨wk.go i H' Lv hlt hwq, fun H2 => i + 1 ≤ ds.length ∧ ∃ acc en', en'.length = n ∧ ER K S.F (L2.wipe σ vs ++ (S.xv ++ [some (.ref D)])) H2 (wipeE en' vs ++ (S.xo ++ [some (.fl (.lst acc))])) tmp1 ∧
        PoF K S W σ Q ((comp2D asg tt it1 asg1 tt1 f vs vs1 (ds.drop (i + 1)) acc en').bind (lcOut vs)), fun H2 h => ⟨_, by omega, rfl, h⟩, fun x H2 y => ?_⟩
      obtain ⟨gr, rx⟩ := wk.yld i H' Lv x H2 ds[i] (List.getElem?_eq_getElem hlt) op.mu hwq y
      rw [List.drop_eq_getElem_cons hlt, comp2D] at Pj
      let S2 : Su := S.c (some (.ref D)) (some (.fl (.lst acc))) tmp1
      have J2 : Stt K S2 (L2.wipe σ vs) H2 (wipeE en' vs) ((ds[i], x) :: tmp1) := k H2 _ gr fun q hq => (List.mem_cons.mp hq).elim (fun z => .inr (by rw [z]; exact rx)) .inl
      have fw : Fine n P S2 (wipeE en' vs) := ⟨by rw [wipeE_length]; exact le', fi.pin⟩
      refine rg S2 (L2.wipe σ vs) H2 (wipeE en' vs) ds[i] x _ fw J2 ?_
      cases qa : asg ds[i] (wipeE en' vs) with
      | none => rw [qa] at Pj; exact Pj.elim
      | some en2 =>
        rw [qa] at Pj
        intro σ3 H3 l3 ne3 J3
        have f3 := fw.to J2 J3 l3
        have wp : L2.wipe σ3 vs = L2.wipe σ vs := by
          have l4 : σ3.length = σ.length := by rw [l3, wipe_length]
          refine wipe_eq l4 fun j hj => ?_
          rw [ne3 j fun z => hj (hsl j z), wipe_at hj]
        refine ⟨wp, rt W0 S2 σ3 H3 en2 _ f3 J3 ?_⟩
        cases q2 : tt en2 with
        | bad => simp only [q2] at Pj; exact Pj.elim
        | ex C fs en3 => simp only [q2] at Pj; exact Pj.elim
        | ok bb en3 =>
          simp only [q2] at Pj
          intro H4 J4
          have f4 := f3.to J3 J4 rfl
          cases bb with
          | false =>
            refine ⟨hlt, acc, en3, f4.len, ?_, Pj⟩
            rw [← wp]
            exact ER.wipe J4 pins (fun v hv => by rw [f4.len]; exact (hw v hv).1) (Stt.len J4)
          | true =>
            refine ri1 W0 S2 σ3 H4 en3 _ f4 J4 ?_
            have Pj : PoF K S W σ Q (Out.bind (match it1 en3 with | .ok ds1 en3 => (match compB asg1 tt1 f vs1 ds1 acc en3 with | .ok acc' en4 => comp2D asg tt it1 asg1 tt1 f vs vs1 (ds.drop (i + 1)) acc' en4 | _ => .bad) | _ => .bad) (lcOut vs)) := Pj
            cases q3 : it1 en3 with
            | bad => rw [q3] at Pj; exact Pj.elim
            | ex C fs en4 => rw [q3] at Pj; exact Pj.elim
            | ok ds1 en4 =>
              rw [q3] at Pj
              intro J1 H5 tmp2 wq1 s2 sw1 I5 wk1 hz1
              have f5 := f4.to J4 I5 rfl
              have pins2 : ∀ q ∈ S2.F.pn, q.1 ∉ vs1 := pins1
              have Pj : PoF K S W σ Q (Out.bind (match compB asg1 tt1 f vs1 ds1 acc en4 with | .ok acc' en4 => comp2D asg tt it1 asg1 tt1 f vs vs1 (ds.drop (i + 1)) acc' en4 | _ => .bad) (lcOut vs)) := Pj
              have I6 : ER K S.F (L2.wipe σ3 vs1 ++ (S.xv ++ [some (.ref D)])) H5 (wipeE en4 vs1 ++ (S.xo ++ [some (.fl (.lst acc))])) tmp2 := ER.wipe I5 pins2 (fun v hv => by rw [f5.len]; exact (hw v (hv1 v hv)).1) (Stt.len I5)
              refine ⟨fun j m H' => m = ds1.length - j ∧ j ≤ ds1.length ∧ ∃ acc en', en'.length = n ∧ ER K S.F (L2.wipe σ3 vs1 ++ (S.xv ++ [some (.ref D)])) H' (wipeE en' vs1 ++ (S.xo ++ [some (.fl (.lst acc))])) tmp2 ∧
                PoF K S W σ Q (Out.bind (match compB asg1 tt1 f vs1 (ds1.drop j) acc en' with | .ok acc' en4 => comp2D asg tt it1 asg1 tt1 f vs vs1 (ds.drop (i + 1)) acc' en4 | _ => .bad) (lcOut vs)), ⟨ds1.length, by simp, Nat.zero_le _, acc, en4, f5.len, I6, Pj⟩, ?_⟩
              rintro j m2 H6 ⟨rfl, hj', acc2, en5, le5, J5, Pk⟩
              obtain ⟨Lv5, op5, k5⟩ := J5.opn
              have hwq5 : ∀ q ∈ wq1, Rep K H6 Lv5 q.1 q.2 := fun q hq => op5.tm q (sw1 q hq)
              by_cases hlj : j < ds1.length
              · refine .inr ⟨wk1.go j H6 Lv5 hlj hwq5, fun H2 => j + 1 ≤ ds1.length ∧ ∃ acc en', en'.length = n ∧ ER K S.F (L2.wipe σ3 vs1 ++ (S.xv ++ [some (.ref D)])) H2 (wipeE en' vs1 ++ (S.xo ++ [some (.fl (.lst acc))])) tmp2 ∧
                  PoF K S W σ Q (Out.bind (match compB asg1 tt1 f vs1 (ds1.drop (j + 1)) acc en' with | .ok acc' en4 => comp2D asg tt it1 asg1 tt1 f vs vs1 (ds.drop (i + 1)) acc' en4 | _ => .bad) (lcOut vs)), fun H2 h => ⟨_, by omega, rfl, h⟩, fun x7 H7 y7 => ?_⟩
                obtain ⟨gr7, rx7⟩ := wk1.yld j H6 Lv5 x7 H7 ds1[j] (List.getElem?_eq_getElem hlj) op5.mu hwq5 y7
                rw [List.drop_eq_getElem_cons hlj, compB] at Pk
                let S7 : Su := S.c (some (.ref D)) (some (.fl (.lst acc2))) tmp2
                have J7 : Stt K S7 (L2.wipe σ3 vs1) H7 (wipeE en5 vs1) ((ds1[j], x7) :: tmp2) := k5 H7 _ gr7 fun q hq => (List.mem_cons.mp hq).elim (fun z => .inr (by rw [z]; exact rx7)) .inl
                have f7 : Fine n P S7 (wipeE en5 vs1) := ⟨by rw [wipeE_length]; exact le5, fi.pin⟩
                refine rg1 S7 (L2.wipe σ3 vs1) H7 (wipeE en5 vs1) ds1[j] x7 _ f7 J7 ?_
                cases qb : asg1 ds1[j] (wipeE en5 vs1) with
                | none => rw [qb] at Pk; exact Pk.elim
                | some en8 =>
                  rw [qb] at Pk
                  intro σ8 H8 l8 ne8 J8
                  have f8 := f7.to J7 J8 l8
                  have wp8 : L2.wipe σ8 vs1 = L2.wipe σ3 vs1 := by
                    have l4 : σ8.length = σ3.length := by rw [l8, wipe_length]
                    refine wipe_eq l4 fun j hj => ?_
                    rw [ne8 j fun z => hj (hsl1 j z), wipe_at hj]
                  refine ⟨wp8, rt1 W0 S7 σ8 H8 en8 _ f8 J8 ?_⟩
                  have Pk : PoF K S W σ Q (Out.bind (match (match tt1 en8 with
                    | .ok true en2 => match f en2 with
                      | .ok y en3 => if acc2.length < 16777216 then compB asg1 tt1 f vs1 (ds1.drop (j + 1)) (acc2 ++ [y]) en3 else .bad
                      | _ => .bad
                    | .ok false en2 => compB asg1 tt1 f vs1 (ds1.drop (j + 1)) acc2 en2
                    | _ => .bad) with | .ok acc' en4 => comp2D asg tt it1 asg1 tt1 f vs vs1 (ds.drop (i + 1)) acc' en4 | _ => .bad) (lcOut vs)) := Pk
                  cases q8 : tt1 en8 with
                  | bad => rw [q8] at Pk; exact Pk.elim
                  | ex C fs en9 => rw [q8] at Pk; exact Pk.elim
                  | ok b8 en9 =>
                    rw [q8] at Pk
                    intro H9 J9
                    have f9 := f8.to J8 J9 rfl
                    have again : ∀ {H6 : Hp} {en6 : En} {acc6 : List Dn.D}, Stt K (S.c (some (.ref D)) (some (.fl (.lst acc6))) tmp2) σ8 H6 en6 tmp2 → en6.length = n → ER K S.F (L2.wipe σ3 vs1 ++ (S.xv ++ [some (.ref D)])) H6 (wipeE en6 vs1 ++ (S.xo ++ [some (.fl (.lst acc6))])) tmp2 := fun {H6 en6 acc6} J6 l6 => by
                      rw [← wp8]
                      exact ER.wipe J6 pins1 (fun v hv => by rw [l6]; exact (hw v (hv1 v hv)).1) (Stt.len J6)
                    cases b8 with
                    | false => exact ⟨hlj, acc2, en9, f9.len, again J9 f9.len, Pk⟩
                    | true =>
                      refine re W0 S7 σ8 H9 en9 _ f9 J9 ?_
                      have Pk : PoF K S W σ Q (Out.bind (match (match f en9 with
                        | .ok y en3 => if acc2.length < 16777216 then compB asg1 tt1 f vs1 (ds1.drop (j + 1)) (acc2 ++ [y]) en3 else .bad
                        | _ => .bad) with | .ok acc' en4 => comp2D asg tt it1 asg1 tt1 f vs vs1 (ds.drop (i + 1)) acc' en4 | _ => .bad) (lcOut vs)) := Pk
                      cases q9 : f en9 with
                      | bad => rw [q9] at Pk; exact Pk.elim
                      | ex C fs en10 => rw [q9] at Pk; exact Pk.elim
                      | ok y en10 =>
                        rw [q9] at Pk
                        intro v H10 J10
                        have f10 := f9.to J9 (ER.pop J10) rfl
                        have Pk : PoF K S W σ Q (Out.bind (match (if acc2.length < 16777216 then compB asg1 tt1 f vs1 (ds1.drop (j + 1)) (acc2 ++ [y]) en10 else .bad) with | .ok acc' en4 => comp2D asg tt it1 asg1 tt1 f vs vs1 (ds.drop (i + 1)) acc' en4 | _ => .bad) (lcOut vs)) := Pk
                        by_cases lz2 : acc2.length < 16777216
                        · rw [if_pos lz2] at Pk
                          have lx := S.xl
                          have l5 := Stt.len J10
                          have cell : (en10 ++ (S.xo ++ [some (O.fl (.lst acc2))]))[en10.length + S.xo.length]? = some (some (.fl (.lst acc2))) := by
                            rw [← List.append_assoc, List.getElem?_append_right (by simp)]; simp
                          obtain ⟨Lv9, a9, u9, op9, hv9, hu9, _, hc9, wr⟩ := ER.wr (i := en10.length + S.xo.length) J10 cell
                          have ea : a9 = D := by
                            have : (σ8 ++ (S.xv ++ [some (V.ref D)]))[en10.length + S.xo.length]? = some (some (.ref D)) := by
                              rw [← List.append_assoc, ← lx, ← l5, List.getElem?_append_right (by simp)]; simp
                            rw [show (σ8 ++ S7.xv) = (σ8 ++ (S.xv ++ [some (V.ref D)])) from rfl, this] at hv9
                            cases hv9; rfl
                          subst ea
                          cases u9 with
                          | lst vs9 =>
                            obtain ⟨lz, rl⟩ := hc9
                            have ry := op9.tm _ List.mem_cons_self
                            have hl9 : vs9.length < sizeLine := by rw [rl.length, sizeLine_eq]; exact lz2
                            refine ⟨vs9, hu9, hl9, hlj, acc2 ++ [y], en10, f10.len, ?_, Pk⟩
                            have nw := wr (.lst (vs9 ++ [v])) (.lst (acc2 ++ [y])) ⟨by rw [sizeLine_eq]; simp; omega, rl.append ⟨v, [], rfl, ry, rfl⟩⟩
                            have se : (en10 ++ (S.xo ++ [some (O.fl (.lst acc2))])).set (en10.length + S.xo.length) (some (.fl (.lst (acc2 ++ [y])))) = en10 ++ (S.xo ++ [some (.fl (.lst (acc2 ++ [y])))]) := by
                              rw [← List.append_assoc, List.set_append_right _ _ (by simp), ← List.append_assoc]; simp
                            rw [show (en10 ++ S7.xo) = (en10 ++ (S.xo ++ [some (O.fl (.lst acc2))])) from rfl, se] at nw
                            exact again (acc6 := acc2 ++ [y]) nw.pop f10.len
                          | _ => exact hc9.elim
                        · rw [if_neg lz2] at Pk; exact Pk.elim
              · have hzz : j = ds1.length := by omega
                subst hzz
                rw [List.drop_length, compB] at Pk
                refine .inl ⟨wk1.stop H6 Lv5 hwq5, hlt, acc2, en5, le5, ?_, Pk⟩
                have ll : (L2.wipe σ3 vs1).length = (wipeE en5 vs1).length := by rw [wipe_length, wipeE_length, le5, ← f5.len]; exact Stt.len I5
                have z := ER.wipe (σ := L2.wipe σ3 vs1) (en := wipeE en5 vs1) J5 pins (fun v hv => by rw [wipeE_length, le5]; exact (hw v hv).1) ll
                rw [wipe_two hv1, wipeE_two hv1, wp] at z
                exact ER.sub z s2
    · have hzz : i = ds.length := by omega
      subst hzz
      rw [List.drop_length, comp2D] at Pj
      refine .inl ⟨wk.stop H' Lv hwq, Pj (.ref D) H' ?_⟩
      have J7 := J'.sub s1
      have l7 : σ.length = en'.length := by rw [le', ← fi.len]; exact Stt.len I
      refine J7.irr (by simp [wipe_length]) (fun j o e => ?_) (fun q hq => ?_)
      · by_cases hj : j < en'.length
        · rw [List.getElem?_append_left (by rw [wipeE_length]; exact hj)] at e
          rw [List.getElem?_append_left (by rw [l7]; exact hj), List.getElem?_append_left (by rw [wipe_length, l7]; exact hj), wipe_at (wipeE_some e).1]
        · rw [List.getElem?_append_right (l₁ := σ) (by rw [l7]; omega), List.getElem?_append_right (l₁ := L2.wipe σ vs) (by rw [wipe_length, l7]; omega), wipe_length]
      · have := J7.pin q hq
        have lq := (fi.pin q hq).1
        rw [List.getElem?_append_left (by rw [wipe_length, l7, le']; exact lq), wipe_at (pins q hq)] at this
        rw [List.getElem?_append_left (by rw [l7, le']; exact lq)]
        exact this
theorem df_lc2 {it it1 : En → Out (List D)} {asg asg1 : D → En → Option En} {tt tt1 : En → Out Bool} {f : En → Out D} {sl sl1 vs1 : List Nat} {scope : Scope} {own : List (Str × Nat)}
    (hc : ∀ i, (X i).calm = true) (hN : ∀ i, (X i).N.Nodup) (ok : ∀ i, BlkOk (X i).N (X i).env.scope scope own) (hw : ∀ v ∈ own.map (·.2), v < n ∧ P v = false) (hsl : ∀ v ∈ sl, v ∈ own.map (·.2)) (hv1 : ∀ v ∈ vs1, v ∈ own.map (·.2)) (hsl1 : ∀ v ∈ sl1, v ∈ vs1)
    (hi : DI X Wf K n P tg iter it) (hg : DG (blkF X scope) K n P tg sl asg) (ht : DTs (blkF X scope) (fun _ => W0) K n P ifs tt) (hi1 : DI (blkF X scope) (fun _ => W0) K n P tg1 iter1 it1) (hg1 : DG (blkF X scope) K n P tg1 sl1 asg1) (ht1 : DTs (blkF X scope) (fun _ => W0) K n P ifs1 tt1)
    (he : DE (blkF X scope) (fun _ => W0) K n P elt f) (hs : ∀ i x, foldedSetIterable iter (X i).env x = pure x := by intro _ _; rfl) (hs1 : ∀ (env : Env) x, foldedSetIterable iter1 env x = pure x := by intro _ _; rfl) :
    DF X Wf K n P (.ListComp elt [⟨tg, iter, ifs, 0⟩, ⟨tg1, iter1, ifs1, 0⟩] scope pos) (lc2F it asg tt it1 asg1 tt1 f (own.map (·.2)) vs1) := by
  obtain ⟨ti, pi, ri⟩ := hi.ex
  obtain ⟨g, pg, rg⟩ := hg.ex
  obtain ⟨tT, pt, rt⟩ := ht.ex
  obtain ⟨ti1, pi1, ri1⟩ := hi1.ex
  obtain ⟨g1, pg1, rg1⟩ := hg1.ex
  obtain ⟨tT1, pt1, rt1⟩ := ht1.ex
  obtain ⟨te, pe, re⟩ := he.ex
  exact ⟨fun W => tLc2 (ti W) g (tT W0) (ti1 W0) g1 (tT1 W0) (te W0) (own.map (·.2)) vs1, fun i => pe_lc2 (hc i) (hN i) (pi i) (ok i) hv1 (fun s H C cl fp => pg (i, s, H, C, cl, fp)) (fun s H C cl fp => pt (i, s, H, C, cl, fp)) (fun s H C cl fp => pi1 (i, s, H, C, cl, fp)) (fun s H C cl fp => pg1 (i, s, H, C, cl, fp)) (fun s H C cl fp => pt1 (i, s, H, C, cl, fp)) (fun s H C cl fp => pe (i, s, H, C, cl, fp)) (hs i) hs1,
    fun W S σ H en Q fi I Po => lc2_run hw hsl hv1 hsl1 ri rg rt ri1 rg1 rt1 re fi I Po⟩
end
end Dn
/-! is True, truth of any value, xs[::-1]. -/
namespace Dn
open PySem PySem.Spec PyProof.Rows L2

section
variable {X : Cx}
def rIsBv (neg : Bool) : R2 := fun x y H Q => ∃ b : Bool, y = .bl b ∧ Q (.bl (if neg = true then !decide (x = .bl b) else decide (x = .bl b))) H
theorem rel_bool {x : V} {v : Value} {b : Bool} (r : L2.RelV x v) : plainIs v (.bool b) = true ∧ (v == Value.bool b) = decide (x = .bl b) := by
  cases x with
  | non => cases r; exact ⟨rfl, rfl⟩
  | bl c => cases r; exact ⟨rfl, by cases b <;> cases c <;> rfl⟩
  | int i => obtain ⟨t, rfl⟩ := r; exact ⟨rfl, rfl⟩
  | str i => obtain ⟨t, rfl⟩ := r; exact ⟨rfl, rfl⟩
  | byt i => obtain ⟨t, rfl⟩ := r; exact ⟨rfl, rfl⟩
  | flt i => obtain ⟨t, rfl⟩ := r; exact ⟨rfl, rfl⟩
  | ref i => cases r; exact ⟨rfl, rfl⟩
  | ty i => cases r; exact ⟨rfl, rfl⟩
theorem op_isBv : OpR X (compareOp .Is) (rIsBv false) := by
  intro pins s σ H x y v u Q I rx ry h
  obtain ⟨b, rfl, q⟩ := h
  cases (show u = Value.bool b from ry)
  obtain ⟨h1, h2⟩ := rel_bool (b := b) rx
  rw [← h2] at q
  exact wpAny_is_plain h1 ⟨.bl (v == Value.bool b), H, I, rfl, q⟩
theorem op_notBv : OpR X (compareOp .IsNot) (rIsBv true) := by
  intro pins s σ H x y v u Q I rx ry h
  obtain ⟨b, rfl, q⟩ := h
  cases (show u = Value.bool b from ry)
  obtain ⟨h1, h2⟩ := rel_bool (b := b) rx
  rw [← h2] at q
  exact wpAny_isNot_plain h1 ⟨.bl (!(v == Value.bool b)), H, I, rfl, q⟩
end
section
variable {K : PySem.W.Frag}
def isBl (b : Bool) : D → Bool
  | .bl c => b == c
  | _ => false
theorem isBl_v {H : Hp} {Lv : Addr → Prop} {d : D} {v : V} {b : Bool} (r : RepR K H Lv d v) : decide (v = .bl b) = isBl b d := by
  cases d with
  | bl c => rw [show v = .bl c from r]; cases b <;> cases c <;> rfl
  | non => rw [show v = .non from r]; rfl
  | int c => rw [show v = .int c from r]; rfl
  | str c => rw [show v = .str c from r.1]; rfl
  | ty c => rw [show v = .ty c from r]; rfl
  | sc c => obtain ⟨a, e, _⟩ := r; rw [e]; rfl
  | lst c => obtain ⟨a, _, e, _⟩ := r; rw [e]; rfl
  | tup c => obtain ⟨a, _, e, _⟩ := r; rw [e]; rfl
  | dK b c => obtain ⟨a, _, e, _⟩ := r; rw [e]; rfl
  | dT b c => obtain ⟨a, _, e, _⟩ := r; rw [e]; rfl
  | ob b c d => obtain ⟨a, _, _, e, _⟩ := r; rw [e]; rfl
  | xc a b c d => rw [show v = .ref a from r.1]; rfl
def isBG (neg : Bool) : D → D → Option D
  | d, .bl b => some (.bl (if neg = true then !isBl b d else isBl b d))
  | _, _ => none
theorem ok_isB {neg : Bool} : Ok2 K (rIsBv neg) (isBG neg) := fun H Lv x y d e c Q mu r1 r2 ec q => by
  unfold isBG at ec
  split at ec
  · cases ec
    refine ⟨_, r2, ?_⟩
    rw [isBl_v r1]
    exact q _ H Grow.refl rfl
  · cases ec
/-- a value's truth -/
def truD : D → Option Bool
  | .non => some false
  | .bl b => some b
  | .int i => some (i != 0)
  | .str x => some ((x.length : Int) != 0)
  | .sc ns => some (!ns.isEmpty)
  | .lst ds => some (!ds.isEmpty)
  | .tup ds => some (!ds.isEmpty)
  | _ => none
theorem isEmpty_len {α β : Type} {xs : List α} {ys : List β} (h : xs.length = ys.length) : xs.isEmpty = ys.isEmpty := by
  cases xs <;> cases ys <;> first | rfl | cases h
theorem truD_ok {H : Hp} {Lv : Addr → Prop} {d : D} {v : V} {k : Bool} (r : RepR K H Lv d v) (e : truD d = some k) : TruV K v H k := by
  cases d with
  | non => cases e; rw [show v = .non from r]; rfl
  | bl c => cases e; rw [show v = .bl _ from r]; rfl
  | int c => cases e; rw [show v = .int c from r]; rfl
  | str c => cases e; rw [show v = .str c from r.1]; exact ⟨r.2, rfl⟩
  | sc c => cases e; obtain ⟨a, e, h, _⟩ := r; rw [e]; exact .inl ⟨_, h.sql, by cases c <;> rfl⟩
  | lst c => cases e; obtain ⟨a, vs, e, h, _, hs⟩ := r; rw [e]; exact .inl ⟨_, .inl (.inl h), by rw [isEmpty_len hs.length]⟩
  | tup c => cases e; obtain ⟨a, vs, e, h, _, hs⟩ := r; rw [e]; exact .inr (.inl ⟨_, .inl (.inl h), by rw [isEmpty_len hs.length]⟩)
  | ty c => cases e
  | dK b c => cases e
  | dT b c => cases e
  | ob b c d => cases e
  | xc a b c d => cases e
end
section
variable {ι : Type} {X : ι → Cx} {Wf : ι → WX} {K : PySem.W.Frag} {n : Nat} {P : Nat → Bool} {s : Stmt} {e a b : Expr} {es : List Expr} {pos : Pos}
def truE (f : En → Out AR) : En → Out Bool := fun en => (f en).bind fun a en => match (viewA en a).bind truD with
  | some k => .ok k en
  | none => .bad
theorem dt_truth {f : En → Out AR} (hK : ∀ i, (X i).K = K) (ha : DA X Wf K n P a f) (he : ∀ i whole, isTrue a (X i).env whole = (do let v ← whole; standAt a.pos; holding [v] (truthy v)) := by intro _ _; rfl) : DT X Wf K n P a (truE f) := by
  obtain ⟨t, p, rd⟩ := ha.ex
  refine ⟨fun W σ H Q => t W σ H fun x H' => ∃ k, TruV K x H' k ∧ Q k H', fun i => by have := pt_truth (p i) (he i); rw [hK i] at this; exact this, fun W S σ H en Q fi I Po => rd W S σ H en _ fi I ?_⟩
  unfold truE at Po
  cases q : f en with
  | ok ar en1 =>
    rw [q, bind_ok] at Po
    intro v H1 tmp1 s1 J h1
    cases ec : (viewA en1 ar).bind truD with
    | none => rw [ec] at Po; exact Po.elim
    | some k =>
      rw [ec] at Po
      obtain ⟨d, e1, e2⟩ := bind_some ec
      obtain ⟨Lv, op, kk⟩ := ER.opn J
      exact ⟨k, truD_ok (op.arg h1 e1) e2, Po H1 (ER.sub J s1)⟩
  | ex C fs en' => rw [q] at Po; exact Po
  | bad => rw [q] at Po; exact Po
/-- xs[::-1] of a list -/
def revG : D → Option D
  | .lst ds => some (.lst ds.reverse)
  | _ => none
def revF (f : En → Out AR) : En → Out O := fun en => (f en).bind fun a en => liftO (((viewA en a).bind revG).map .fl) en
theorem RepL.reverse {H : Hp} {Lv : Addr → Prop} : ∀ {ds : List D} {vs : List V}, RepL K H Lv ds vs → RepL K H Lv ds.reverse vs.reverse
  | [], _, h => by cases h; exact rfl
  | d :: ds, _, ⟨v, ws, e, r, hs⟩ => by
    subst e
    rw [List.reverse_cons, List.reverse_cons]
    exact (RepL.reverse hs).append ⟨v, [], rfl, r, rfl⟩
theorem df_rev {f : En → Out AR} {k : Nat} {p1 p2 p3 : Pos} (hK : ∀ i, (X i).K = K) (ha : DA X Wf K n P a f) : DF X Wf K n P (.Subscript a (.Slice none none (some (.UnaryOp .USub (.Constant (.int 1) k p1) p2)) p3) pos) (revF f) := by
  obtain ⟨t, p, rd⟩ := ha.ex
  refine ⟨fun W => tRevL K (t W), fun i => by have := pe_revL (k := k) (p1 := p1) (p2 := p2) (p3 := p3) (pos := pos) (p i); rw [hK i] at this; exact this, fun W S σ H en Q fi I Po => rd W S σ H en _ fi I ?_⟩
  unfold revF at Po
  cases q : f en with
  | ok ar en1 =>
    rw [q, bind_ok] at Po
    intro v H1 tmp1 s1 J h1
    cases ec : (viewA en1 ar).bind revG with
    | none => rw [ec] at Po; exact Po.elim
    | some c =>
      rw [ec] at Po
      obtain ⟨d, e1, e2⟩ := bind_some ec
      obtain ⟨fp, ft, tm⟩ := ER.fit J
      have rd := (ft.opn J tm).arg h1 e1
      unfold revG at e2
      split at e2
      · rename_i ds
        cases e2
        obtain ⟨ad, vs, rfl, h, hz, hs⟩ := rd
        refine ⟨ad, vs, rfl, .inl (.inl h), fun p hp => Po (.ref p) _ ?_⟩
        have N := ER.newOf J ft tm (p := p) (u := .lst vs.reverse) (d := .lst ds.reverse) hp ⟨by simpa using hz, hs.reverse⟩
        rw [List.append_assoc, List.append_assoc] at N
        exact N.sub s1
      · cases e2
  | ex C fs en' => rw [q] at Po; exact Po
  | bad => rw [q] at Po; exact Po
end
end Dn
/-! Operations that serve several kinds at once. -/
namespace Dn
open PySem PySem.Spec PyProof.Rows L2

section
variable {K : PySem.W.Frag}
/-! ### + -/
def addG : D → D → Option D
  | .int i, .int j => some (.int (i + j))
  | .str x, .str y => if x.length + y.length ≤ 16777216 then some (.str (x ++ y)) else none
  | .lst xs, .lst ys => if xs.length + ys.length ≤ 16777216 then some (.lst (xs ++ ys)) else none
  | .tup xs, .tup ys => if xs.length + ys.length ≤ 16777216 then some (.tup (xs ++ ys)) else none
  | _, _ => none
def rStrs : R2 := fun x y H Q => ∃ i j, x = .str i ∧ y = .str j ∧ i.length + j.length ≤ sizeLine ∧ Q (.str (i ++ j)) H
def rAddAny (K : PySem.W.Frag) : R2 := fun x y H Q => ((rI0 fun i j => .int (i + j)) x y H Q ∨ rStrs x y H Q) ∨ rCat x y H Q ∨ rCatA K x y H Q
theorem op_addAny {X : Cx} : OpR X (binaryOp .Add) (rAddAny X.K) := (op_add.or op_add_str).or (op_cat.or op_catA)
theorem ok_addG : Ok2 K (rAddAny K) addG := fun H Lv x y d e c Q mu r1 r2 ec q => by
  cases d <;> cases e <;> first
    | exact .inl (.inl (ok_rI0 (K := K) (g := fun i j => i + j) H Lv x y _ _ c Q mu r1 r2 ec q))
    | exact .inl (.inr (ok_addS H Lv x y _ _ c Q mu r1 r2 ec q))
    | exact .inr (.inl (ok_addL H Lv x y _ _ c Q mu r1 r2 ec q))
    | exact .inr (.inr (ok_addT H Lv x y _ _ c Q mu r1 r2 ec q))
    | cases ec
/-! ### == -/
def eqA (d e : D) : Option D := (eqS d e).or (eqG d e)
def neA (d e : D) : Option D := (neS d e).or (neG d e)
def rEqAny (K : PySem.W.Frag) : R2 := fun x y H Q => rEq x y H Q ∨ rEqD K x y H Q
def rNeAny (K : PySem.W.Frag) : R2 := fun x y H Q => rNe x y H Q ∨ rNeD K x y H Q
theorem op_eqAny {X : Cx} {k : Nat} (hr : Room k X.A) : OpR X (compareOp .Eq) (rEqAny X.K) := op_eq.or (op_eqD (by have := hr.un; omega))
theorem op_neAny {X : Cx} {k : Nat} (hr : Room k X.A) : OpR X (compareOp .NotEq) (rNeAny X.K) := op_ne.or (op_neD (by have := hr.un; omega))
theorem ok_eqA : Ok2 K (rEqAny K) eqA := Ok2.or ok_eqS ok_eqD
theorem ok_neA : Ok2 K (rNeAny K) neA := Ok2.or ok_neS ok_neD
/-! ### is -/
def isA : D → D → Option D
  | d, .non => some (.bl (isNon d))
  | d, .bl b => some (.bl (isBl b d))
  | _, _ => none
def notA : D → D → Option D
  | d, .non => some (.bl (!isNon d))
  | d, .bl b => some (.bl (!isBl b d))
  | _, _ => none
def rIsAny (neg : Bool) : R2 := fun x y H Q => (y = .non ∧ Q (.bl (if neg = true then !decide (x = .non) else decide (x = .non))) H) ∨ rIsBv neg x y H Q
theorem op_isAny {X : Cx} : OpR X (compareOp .Is) (rIsAny false) := op_isN.or op_isBv
theorem op_notAny {X : Cx} : OpR X (compareOp .IsNot) (rIsAny true) := op_notN.or op_notBv
theorem ok_isA : Ok2 K (rIsAny false) isA := fun H Lv x y d e c Q mu r1 r2 ec q => by
  cases e <;> first
    | exact .inl (ok_isN H Lv x y d .non c Q mu r1 r2 ec q)
    | exact .inr (ok_isB (neg := false) H Lv x y d (.bl _) c Q mu r1 r2 ec q)
    | cases ec
theorem ok_notA : Ok2 K (rIsAny true) notA := fun H Lv x y d e c Q mu r1 r2 ec q => by
  cases e <;> first
    | exact .inl (ok_notN H Lv x y d .non c Q mu r1 r2 ec q)
    | exact .inr (ok_isB (neg := true) H Lv x y d (.bl _) c Q mu r1 r2 ec q)
    | cases ec
/-! ### in -/
def rInSg (neg : Bool) : R2 := fun x y H Q => ∃ (c : Nat) (z : Str), x = .str ⟨#[c]⟩ ∧ y = .str z ∧ Q (.bl (if neg = true then !decide (c ∈ z.cps.toList) else decide (c ∈ z.cps.toList))) H
def rInAny (K : PySem.W.Frag) (neg : Bool) : R2 := fun x y H Q => rIn K neg x y H Q ∨ rInSg neg x y H Q
theorem op_inAny {X : Cx} : OpR X (compareOp .In) (rInAny X.K false) := op_in_seq.or op_in_sign
theorem op_notInAny {X : Cx} : OpR X (compareOp .NotIn) (rInAny X.K true) := op_notIn_seq.or op_notIn_sign
def inA (d e : D) : Option D := (inG d e).or (inSg d e)
def notInA (d e : D) : Option D := (notInG d e).or ((inSg d e).bind notB)
theorem ok_inA : Ok2 K (rInAny K false) inA := Ok2.or ok_in ok_inSg
theorem ok_notInA : Ok2 K (rInAny K true) notInA := Ok2.or ok_notIn fun H Lv x y d e c Q mu r1 r2 ec q => by
  obtain ⟨z, e1, e2⟩ := bind_some ec
  unfold inSg at e1
  split at e1
  · split at e1
    · rename_i h
      cases e1; cases e2
      exact ⟨_, _, by rw [← str_one h]; exact r1.1, r2.1, q _ H Grow.refl rfl⟩
    · cases e1
  · cases e1
end

/-! ### walks of any kind -/
def iAny (K : PySem.W.Frag) (te : TE) : TI := fun σ H R => te σ H fun v H1 => (∃ a, v = .ref a ∧ (∃ xs, SqL K H1 a xs) ∧ R (Itl K a) H1) ∨ (∃ a, v = .ref a ∧ (∃ xs, SqT K H1 a xs) ∧ R (Itt K a) H1) ∨ ∃ x, v = .str x ∧ R (Its x) H1
theorem pi_any {X : Cx} {tg e : Expr} {te : TE} (he : PE X e te) : PI X tg e (iAny X.K te) := by
  constructor
  intro pins s σ H R I h
  refine thn (he.run pins s σ H _ I h) fun v s1 ⟨x, H1, I1, r1, q1⟩ => ?_
  have new : ∀ b ∈ [s1.heap.objs.size], FpOk X pins H1 b := fun b hb => by
    rw [List.mem_singleton.mp hb]
    exact I1.fpOk (Nat.le_refl _) (I1.hok.fresh (Nat.le_refl _))
  rcases q1 with ⟨a, rfl, ⟨xs, hq⟩, q⟩ | ⟨a, rfl, ⟨xs, hq⟩, q⟩ | ⟨x, rfl, q⟩
  · cases r1
    obtain ⟨its, rv, p, _⟩ := I1.list hq
    exact wpAny_pyIter_list p.isList ⟨_, _, _, _, H1, rfl, I1.kept (t' := s1.toks) fun b o z => Heap.get?_push_of_some _ z, turn_list a _, ⟨_, Heap.get?_push_size _ rfl, rfl, rfl⟩, new, q⟩
  · cases r1
    obtain ⟨its, rv, p, _⟩ := I1.tuple hq
    exact wpAny_pyIter_tuple (show s1.heap.IsTuple a its.toArray from p) ⟨_, _, _, _, H1, rfl, I1.kept (t' := s1.toks) fun b o z => Heap.get?_push_of_some _ z, turn_tuple a _, ⟨_, Heap.get?_push_size _ rfl, rfl, rfl⟩, new, q⟩
  · obtain ⟨t, rfl⟩ := r1
    cases ha : x.cps.all (· < 128)
    · exact wpAny_pyIter_wide ha (pi_one (tk := s1.toks) I1 _ (turn_str _ x t "str_iterator" (.inr rfl)) ⟨_, Heap.get?_push_size _ rfl, rfl, rfl⟩ q)
    · exact wpAny_pyIter_ascii ha (pi_one (tk := s1.toks) I1 _ (turn_str _ x t "str_ascii_iterator" (.inl rfl)) ⟨_, Heap.get?_push_size _ rfl, rfl, rfl⟩ q)
section
variable {ι : Type} {X : ι → Cx} {Wf : ι → WX} {K : PySem.W.Frag} {n : Nat} {P : Nat → Bool} {s : Stmt} {e a b tg : Expr} {es : List Expr} {pos p2 : Pos}
def anyItems : D → En → Out (List D)
  | .lst ds, en => .ok ds en
  | .sc ns, en => .ok (ns.map .int) en
  | .tup ds, en => .ok ds en
  | .str x, en => .ok (signsD x) en
  | _, _ => .bad
theorem di_any {f : En → Out D} (hK : ∀ i, (X i).K = K) (h : DE X Wf K n P e f) : DI X Wf K n P tg e (fun en => (f en).bind anyItems) := by
  obtain ⟨t, p, r⟩ := h.ex
  refine ⟨fun W => iAny K (t W), fun i => by have := pi_any (tg := tg) (p i); rw [hK i] at this; exact this, fun W S σ H en R fi I Po => r W S σ H en _ fi I ?_⟩
  cases q : f en with
  | ok d en1 =>
    rw [q, bind_ok] at Po
    intro v H1 J
    obtain ⟨Lv, op, k⟩ := ER.opn J
    have rd := op.tm _ List.mem_cons_self
    cases d with
    | lst ds =>
      obtain ⟨ad, vs, e, _, hl, hz, hs⟩ := rd
      refine .inl ⟨ad, e, ⟨vs, .inl (.inl hl)⟩, Po _ H1 _ [(.lst ds, v)] (fun q h => List.mem_cons_of_mem _ h) (fun q h => by rw [List.mem_singleton.mp h]; exact List.mem_cons_self) J ⟨fun i H' Lv' hi hw => ?_, fun H' Lv' hw => ?_, fun i H' Lv' x H2 d hd _ hw y => ?_⟩ hz⟩
      · obtain ⟨ad', vs', e', _, hl', _, hs'⟩ := hw _ List.mem_cons_self
        rw [show v = V.ref ad from e] at e'; cases e'
        obtain ⟨x, hx, _⟩ := hs'.get (List.getElem?_eq_getElem hi)
        exact ⟨vs', x, .inl (.inl hl'), hx⟩
      · obtain ⟨ad', vs', e', _, hl', _, hs'⟩ := hw _ List.mem_cons_self
        rw [show v = V.ref ad from e] at e'; cases e'
        exact ⟨vs', .inl (.inl hl'), by rw [hs'.length]; exact Nat.le_refl _⟩
      · obtain ⟨ad', vs', e', _, hl', _, hs'⟩ := hw _ List.mem_cons_self
        rw [show v = V.ref ad from e] at e'; cases e'
        obtain ⟨e1, y⟩ := y
        subst e1
        obtain ⟨x', hx, rx⟩ := hs'.get hd
        have := (y vs' (.inl (.inl hl'))).symm.trans hx
        cases this
        exact ⟨Grow.refl, rx⟩
    | sc ns =>
      obtain ⟨ad, e, hl, hz⟩ := rd
      refine .inl ⟨ad, e, ⟨_, hl.sql⟩, Po _ H1 _ [(.sc ns, v)] (fun q h => List.mem_cons_of_mem _ h) (fun q h => by rw [List.mem_singleton.mp h]; exact List.mem_cons_self) J ⟨fun i H' Lv' hi hw => ?_, fun H' Lv' hw => ?_, fun i H' Lv' x H2 d hd _ hw y => ?_⟩ (by simpa using hz)⟩
      · obtain ⟨ad', e', hl', _⟩ := hw _ List.mem_cons_self
        rw [show v = V.ref ad from e] at e'; cases e'
        have hi' : i < ns.length := by simpa using hi
        exact ⟨_, .int ns[i], hl'.sql, by simp [hi']⟩
      · obtain ⟨ad', e', hl', _⟩ := hw _ List.mem_cons_self
        rw [show v = V.ref ad from e] at e'; cases e'
        exact ⟨_, hl'.sql, by simp⟩
      · obtain ⟨ad', e', hl', _⟩ := hw _ List.mem_cons_self
        rw [show v = V.ref ad from e] at e'; cases e'
        obtain ⟨e1, y⟩ := y
        subst e1
        have := y _ hl'.sql
        rw [List.getElem?_map] at this hd
        cases z : ns[i]? with
        | none => rw [z] at hd; cases hd
        | some m => rw [z] at hd this; cases hd; cases this; exact ⟨Grow.refl, rfl⟩
    | tup ds =>
      obtain ⟨ad, vs, e, hl, hz, hs⟩ := rd
      refine .inr (.inl ⟨ad, e, ⟨vs, .inl (.inl hl)⟩, Po _ H1 _ [(.tup ds, v)] (fun q h => List.mem_cons_of_mem _ h) (fun q h => by rw [List.mem_singleton.mp h]; exact List.mem_cons_self) J ⟨fun i H' Lv' hi hw => ?_, fun H' Lv' hw => ?_, fun i H' Lv' x H2 d hd _ hw y => ?_⟩ hz⟩)
      · obtain ⟨ad', vs', e', hl', _, hs'⟩ := hw _ List.mem_cons_self
        rw [show v = V.ref ad from e] at e'; cases e'
        obtain ⟨x, hx, _⟩ := hs'.get (List.getElem?_eq_getElem hi)
        exact ⟨vs', x, .inl (.inl hl'), hx⟩
      · obtain ⟨ad', vs', e', hl', _, hs'⟩ := hw _ List.mem_cons_self
        rw [show v = V.ref ad from e] at e'; cases e'
        exact ⟨vs', .inl (.inl hl'), by rw [hs'.length]; exact Nat.le_refl _⟩
      · obtain ⟨ad', vs', e', hl', _, hs'⟩ := hw _ List.mem_cons_self
        rw [show v = V.ref ad from e] at e'; cases e'
        obtain ⟨e1, y⟩ := y
        subst e1
        obtain ⟨x', hx, rx⟩ := hs'.get hd
        have := (y vs' (.inl (.inl hl'))).symm.trans hx
        cases this
        exact ⟨Grow.refl, rx⟩
    | str x =>
      obtain ⟨e, hz⟩ := rd
      refine .inr (.inr ⟨x, e, Po _ H1 _ [] (fun q h => List.mem_cons_of_mem _ h) (fun q h => by cases h) J ⟨fun i H' Lv' hi hw => ?_, fun H' Lv' hw => ?_, fun i H' Lv' y H2 d hd _ hw yy => ?_⟩ ?_⟩)
      · have : i < x.cps.size := by simpa [signsD] using hi
        exact this
      · show x.cps.size ≤ _
        simp [signsD]
      · obtain ⟨rfl, c, hc, rfl⟩ := yy
        refine ⟨Grow.refl, ?_⟩
        simp only [signsD, List.getElem?_map, Array.getElem?_toList, hc, Option.map_some, Option.some.injEq] at hd
        rw [← hd]
        exact ⟨rfl, by rw [sizeLine_eq]; show 1 ≤ 16777216; omega⟩
      · show (signsD x).length ≤ sizeLine
        simp only [signsD, List.length_map, Array.length_toList]
        exact hz
    | _ => exact Po.elim
  | ex C fs en' => rw [q] at Po; exact Po
  | bad => rw [q] at Po; exact Po
end
end Dn
/-! What a text's defs and classes are known by; calls, makings, raises by that. -/
namespace Dn
open PySem PySem.Spec PyProof.Rows L2

/-- the context speaks of this text -/
structure At (X : Cx) (P : Program) (w : World) (K : PySem.W.Frag) (mg : Str → Option Value) (base : Heap) : Prop where
  p : X.prog = P
  w : X.w = w
  k : X.K = K
  m : X.mg = mg
  b : X.base = base
/-- the def at f keeps F -/
structure Kn (P : Program) (w : World) (K : PySem.W.Frag) (mg : Str → Option Value) (base : Heap) (x : Str) (k : Nat) (ps : List Str) (F : Fn) : Prop where
  ex : ∃ (f : Addr) (fd : FuncData), mg x = some (.ref f) ∧ PySem.W.keepIn K (.ref f) = true ∧ L2.Binds K fd ps [] ∧ FnOk P w K mg base (L2.CX P w) k f fd ps (SpD K F)
/-- the class at C is made by an __init__ that keeps F -/
structure Km (P : Program) (w : World) (K : PySem.W.Frag) (mg : Str → Option Value) (base : Heap) (x : Str) (C : Addr) (k : Nat) (ps : List Str) (F : Fn) : Prop where
  ex : ∃ (f : Addr) (fd : FuncData), mg x = some (.ref C) ∧ Mk K C f ∧ L2.Binds K fd ps [] ∧ FnOk P w K mg base (L2.CX P w) k f fd ps (SpD K F)
section
variable {ι : Type} {X : ι → Cx} {Wf : ι → WX} {K : PySem.W.Frag} {n : Nat} {Pn : Nat → Bool} {s : Stmt} {e a b : Expr} {es : List Expr} {pos p1 p2 : Pos} {P : Program} {w : World} {mg : Str → Option Value} {base : Heap}
theorem df_kn {x : Str} {k : Nat} {ps : List Str} {F : Fn} {f : En → Out (List AR)} (G : Kn P w K mg base x k ps F) (cx : ∀ i, At (X i) P w K mg base) (hr : ∀ i, Room k (X i).A) (hg : ∀ i, Gl (X i) x) (tk : ∀ i, Takes (X i) (Wf i)) (ha : DAs X Wf K n Pn (e :: es) f)
    (hdb : (x == ("__debug__" : Str)) = false := by decide) (st : ∀ i, starEach (e :: es) (X i).env = (false, eval e (X i).env) :: starEach es (X i).env := by intro _; rfl) (pl : ∀ i, (backTo pos (starEach es (X i).env)).any (·.1) = false := by intro _; rfl) :
    DF X Wf K n Pn (.Call (.Name x p1) (e :: es) [] pos) (callD F f) := by
  obtain ⟨fa, fd, gF, kF, bF, G⟩ := G.ex
  refine df_call ha fun i t p => ?_
  have c := cx i
  have G' : FnOk (X i).prog (X i).w (X i).K (X i).mg (X i).base (L2.CX (X i).prog (X i).w) k fa fd ps (SpD K F) := by
    rw [c.p, c.w, c.k, c.m, c.b]; exact G
  exact pe_callS G' (hr i) (hg i) (by rw [c.m]; exact gF) (by rw [c.k]; exact kF) (by rw [c.k]; exact bF) (fun σ => passAt (tk i) σ) p hdb (st i) (pl i)
theorem df_km {x : Str} {C : Addr} {k : Nat} {ps : List Str} {F : Fn} {f : En → Out (List AR)} (G : Km P w K mg base x C k ps F) (cx : ∀ i, At (X i) P w K mg base) (hr : ∀ i, Room (k + 1) (X i).A) (hg : ∀ i, Gl (X i) x) (tk : ∀ i, Takes (X i) (Wf i)) (ha : DAs X Wf K n Pn (e :: es) f)
    (hdb : (x == ("__debug__" : Str)) = false := by decide) (st : ∀ i, starEach (e :: es) (X i).env = (false, eval e (X i).env) :: starEach es (X i).env := by intro _; rfl) (pl : ∀ i, (backTo pos (starEach es (X i).env)).any (·.1) = false := by intro _; rfl) :
    DF X Wf K n Pn (.Call (.Name x p1) (e :: es) [] pos) (makeD C F f) := by
  obtain ⟨fa, fd, gC, M, bF, G⟩ := G.ex
  refine df_make ha fun i t p => ?_
  have c := cx i
  have G' : FnOk (X i).prog (X i).w (X i).K (X i).mg (X i).base (L2.CX (X i).prog (X i).w) k fa fd ps (SpD K F) := by
    rw [c.p, c.w, c.k, c.m, c.b]; exact G
  exact pe_makeS (by rw [c.k]; exact M) G' (hr i) (hg i) (by rw [c.m]; exact gC) (by rw [c.k]; exact bF) (fun σ => passAt (tk i) σ) p hdb (st i) (pl i)

/-! ### error classes -/
abbrev bmVE : List Value := [.type "ValueError", .type "Exception", .type "BaseException", .type "object"]
/-- an error class over ValueError, at C -/
structure Er (K : PySem.W.Frag) (mg : Str → Option Value) (x : Str) (C : Addr) : Prop where
  g : mg x = some (.ref C)
  q : PySem.W.excIn K C bmVE "ValueError.__new__" = true
  kp : PySem.W.keepIn K (.ref C) = true
  b : PySem.W.subIn K (.ref C) (.type "BaseException") = some true
  t : PySem.W.typeIn K (.ref C) = some (.type "type")
theorem ds_er0 {x : Str} {C : Addr} (T : Er K mg x C) (cx : ∀ i, At (X i) P w K mg base) (hc : ∀ i, (X i).calm = true) (tk : ∀ i, Takes (X i) (Wf i)) (hg : ∀ i, Gl (X i) x) (hdb : (x == ("__debug__" : Str)) = false := by decide) :
    DS X Wf K n Pn (.Raise (some (.Call (.Name x p1) [] [] p2)) none pos) (fun en => .ex C none en) :=
  ds_raise0 (bmB := bmVE) (B := "ValueError") (newId := "ValueError.__new__") hc tk PySem.F.excBase_ValueError (fun i => by rw [(cx i).k]; exact T.q) (fun i => by rw [(cx i).m]; exact T.g) (fun i => by rw [(cx i).k]; exact T.kp) (fun i => raises_own (by rw [(cx i).k]; exact T.b) (by rw [(cx i).k]; exact T.t)) hg hdb
/-- .. with an __init__ that keeps one thing in the field f -/
structure Er1 (P : Program) (w : World) (K : PySem.W.Frag) (mg : Str → Option Value) (base : Heap) (x : Str) (C : Addr) (f : Str) : Prop where
  g : mg x = some (.ref C)
  o : OexC K C
  ex : ∃ (fI : Addr) (fd : FuncData) (ps : List Str), PySem.W.findIn K (.ref C) "__init__" = some (some (.ref fI)) ∧ PySem.W.typeIn K (.ref fI) = some (.type "function") ∧ L2.Binds K fd ps [] ∧ FnOk P w K mg base CX0 1 fI fd ps (spI1 C f)
theorem ok_err1 {q : String} {st : Stmt} {f : Addr} {fd : FuncData} {C : Addr} {p fl : Str} {pa pb pc pd : Pos} (F : L2.Fun K "__init__" q st f fd) (S : FnScope ["self", p] ["self", p] (defScope st)) (T : OexC K C) (hno : PySem.W.findIn K (.ref C) fl = some none)
    (hb : defBody st = [.Assign [.Attribute (.Name "self" pa) fl pb] (.Name p pc) pd])
    (hs : ∀ cdv A outer s H E, PE (cxOf CX0 P w K mg base ["self", p] q (defScope st) f cdv A outer s H E).nox (.Name "self" pa) (tVar 0)) (hp : ∀ cdv A outer s H E, PE (cxOf CX0 P w K mg base ["self", p] q (defScope st) f cdv A outer s H E).nox (.Name p pc) (tVar 1)) :
    FnOk P w K mg base CX0 1 f fd ["self", p] (spI1 C fl) := by
  refine F.ok S (fun vs H Q E h => ?_) (fun cdv A outer s H vs Q E hr h => ?_)
  · obtain ⟨ad, v, rfl, _⟩ := h
    rfl
  · obtain ⟨ad, v, rfl, ha, k⟩ := h
    rw [hb]
    refine ⟨_, pss_one (ps_ost (hs cdv A outer s H E) (hp cdv A outer s H E)), ?_⟩
    exact ⟨_, rfl, _, rfl, ad, C, rfl, T, hno, .inl ⟨ha, fun dx h1 h2 => k dx h1 h2⟩⟩
theorem ds_er1 {x f : Str} {C : Addr} {g : En → Out (List AR)} (T : Er1 P w K mg base x C f) (cx : ∀ i, At (X i) P w K mg base) (hr : ∀ i, Room 2 (X i).A) (hc : ∀ i, (X i).calm = true) (tk : ∀ i, Takes (X i) (Wf i)) (hg : ∀ i, Gl (X i) x) (ha : DAs X Wf K n Pn (a :: es) g)
    (hdb : (x == ("__debug__" : Str)) = false := by decide) (he : ∀ i, starEach (a :: es) (X i).env = (false, eval a (X i).env) :: starEach es (X i).env := by intro _; rfl) (hpl : ∀ i, (backTo p2 (starEach es (X i).env)).any (·.1) = false := by intro _; rfl) :
    DS X Wf K n Pn (.Raise (some (.Call (.Name x p1) (a :: es) [] p2)) none pos) (raise1D C f g) := by
  obtain ⟨fI, fd, ps, iC, tI, bI, G⟩ := T.ex
  refine ds_raise1 hc tk ha fun i t p => ?_
  have c := cx i
  have G' : FnOk (X i).prog (X i).w (X i).K (X i).mg (X i).base CX0 1 fI fd ps (spI1 C f) := by
    rw [c.p, c.w, c.k, c.m, c.b]; exact G
  exact pmk_oex (by rw [c.k]; exact T.o) (by rw [c.k]; exact iC) (by rw [c.k]; exact tI) G' (hr i) (by rw [c.k]; exact bI) .nil L2.pass0 (hg i) (by rw [c.m]; exact T.g) p hdb (he i) (hpl i)
/-- which of some classes a clause names -/
def clsT (t : List (Addr × Bool)) : Addr → Option Bool := fun C => t.lookup C
theorem clsT_ok {t : List (Addr × Bool)} {c : Value} (h : ∀ q ∈ t, PySem.W.exmOne K (.ref q.1) c = some q.2) : ∀ C b, clsT t C = some b → PySem.W.exmOne K (.ref C) c = some b := fun C b e => h _ (lookup_mem e)
end
end Dn
/-! Short names of what texts come to. -/
namespace Dn
open PySem PySem.Spec PyProof.Rows L2

@[reducible] def cD (d : D) : En → Out D := fun en => .ok d en
@[reducible] def viewD (f : En → Out O) : En → Out D := fun en => (f en).bind fun o en => .ok (view o) en
@[reducible] def valO (f : En → Out D) : En → Out O := fun en => (f en).bind fun d en => .ok (.val d) en
@[reducible] def tA (f : En → Out D) : En → Out AR := fun en => (f en).bind fun d en => .ok (.t d) en
@[reducible] def nilA : En → Out (List AR) := fun en => .ok [] en
@[reducible] def consA (f : En → Out AR) (g : En → Out (List AR)) : En → Out (List AR) := fun en => (f en).bind fun a en => (g en).bind fun as en => .ok (a :: as) en
@[reducible] def tstD (f : En → Out D) : En → Out Bool := fun en => (f en).bind boolD
@[reducible] def notT (f : En → Out Bool) : En → Out Bool := fun en => (f en).bind fun b en => .ok (!b) en
@[reducible] def ifV (f : En → Out Bool) (g h : En → Out D) : En → Out D := fun en => (f en).bind fun k en => if k = true then g en else h en
@[reducible] def notV (f : En → Out D) : En → Out D := fun en => (f en).bind fun d en => match d with
  | .bl b => .ok (.bl (!b)) en
  | _ => .bad
@[reducible] def nxD : En → Out Fl := fun en => .ok .nx en
@[reducible] def bkD : En → Out Fl := fun en => .ok .bk en
@[reducible] def ctD : En → Out Fl := fun en => .ok .ct en
@[reducible] def dropD (f : En → Out D) : En → Out Fl := fun en => (f en).bind fun _ en => .ok .nx en
@[reducible] def exD (C : Addr) : En → Out Fl := fun en => .ex C none en
@[reducible] def yesD : En → Out Bool := fun en => .ok true en
@[reducible] def noP : En → Out (Option Int) := fun en => .ok none en
@[reducible] def someP (f : En → Out AR) : En → Out (Option Int) := fun en => (f en).bind fun a en => partA en a
@[reducible] def walkI (f : En → Out D) : En → Out (List D) := fun en => (f en).bind anyItems
@[reducible] def setI (j : Nat) (f : En → Out D) (g : En → Out AR) : En → Out Fl := fun en => match lstAt en j with | none => .bad | some _ => setiD j f g en
section
variable {K : PySem.W.Frag}
theorem hb_I {f : Int → Int → Bool} (H : Hp) (Lv : Addr → Prop) (x y : V) (d d' c : D) (r1 : RepR K H Lv d x) (r2 : RepR K H Lv d' y) (e : ii (fun i j => some (.bl (f i j))) d d' = some c) (Q : VK) (q : ∀ v, Rep K H Lv c v → Q v H) : rI0 (fun i j => .bl (f i j)) x y H Q := by
  obtain ⟨i, j, rfl, rfl, ec⟩ := ii_eq e
  cases ec
  exact ⟨i, j, r1, r2, q _ rfl⟩
/-- slices as values, of a list, a tuple, a text -/
def slA : D → Option Int → Option Int → Option D
  | .lst ds, lo, hi => some (.lst (cutD ds lo hi))
  | .tup ds, lo, hi => some (.tup (cutD ds lo hi))
  | .str z, lo, hi => some (.str (cutS z lo hi))
  | .sc ns, lo, hi => some (.lst (cutD (ns.map .int) lo hi))
  | _, _, _ => none
def rSlAny (K : PySem.W.Frag) : V → Option Int → Option Int → Hp → VK → Prop := fun x lo hi H Q => rSlL K x lo hi H Q ∨ rSlA K x lo hi H Q ∨ rSlS x lo hi H Q
theorem sl_any {X : Cx} : SlR X (rSlAny X.K) := sl_list.or (sl_tupA.or sl_str)
theorem ok_slA : OkSl K (rSlAny K) slA := fun H Lv x d c lo hi Q mu r ec q => by
  cases d with
  | lst ds =>
    cases ec
    obtain ⟨a, vs, rfl, h, hz, hs⟩ := r
    refine .inl ⟨a, vs, rfl, .inl (.inl h), fun p hp => q _ _ (Grow.upd hp) ⟨p, cutV vs lo hi, rfl, fun z => ?_, upd_same, Nat.le_trans cutD_length hz, hs.cut.mono (Grow.upd hp).keep⟩⟩
    have := mu p z
    rw [hp] at this; exact this
  | tup ds => exact .inr (.inl (ok_slT H Lv x (.tup ds) c lo hi Q mu r ec q))
  | str z => exact .inr (.inr (ok_slS H Lv x (.str z) c lo hi Q mu r ec q))
  | sc ns =>
    cases ec
    obtain ⟨a, rfl, h, hz⟩ := r
    have hs : RepL K H Lv (ns.map D.int) (ns.map V.int) := RepL.ints ns
    refine .inl ⟨a, _, rfl, h.sql, fun p hp => q _ _ (Grow.upd hp) ⟨p, cutV (ns.map V.int) lo hi, rfl, fun z => ?_, upd_same, Nat.le_trans cutD_length (by rw [List.length_map]; exact hz), hs.cut.mono (Grow.upd hp).keep⟩⟩
    have := mu p z
    rw [hp] at this; exact this
  | _ => cases ec
end
section
variable {ι : Type} {X : ι → Cx} {Wf : ι → WX} {K : PySem.W.Frag} {n : Nat} {P : Nat → Bool} {s : Stmt} {e a b kx vx : Expr} {es : List Expr} {pos p2 : Pos}
/-- {k: v}, the key a whole number or a text -/
def disp1K (d y : D) (en : En) : Out O := match keyK d with
  | some k => .ok (.fl (.dK [k] [y])) en
  | none => .bad
def disp1D (f g : En → Out D) : En → Out O := fun en => (f en).bind fun d en => (g en).bind fun y en => disp1K d y en
theorem df_disp1 {f g : En → Out D} (hk : DE X Wf K n P kx f) (hv : DE X Wf K n P vx g) : DF X Wf K n P (.Dict [some kx] [vx] pos) (disp1D f g) := by
  obtain ⟨t, p, rd⟩ := hk.ex
  obtain ⟨t2, p2, rd2⟩ := hv.ex
  refine ⟨fun W => tDisp [(t W, t2 W)], fun i => pe_disp (pps_cons (p i) (p2 i) pps_nil) rfl rfl (by simp) (by show 1 ≤ 15; omega), fun W S σ H en Q fi I Po => ?_⟩
  intro D hD
  let S2 : Su := S.c (some (.ref D)) (some (.fl (.dK [] []))) S.tmp
  have I2 : Stt K S2 σ (upd H D (.dK [])) en S2.tmp := by
    have z := ER.newO I (p := D) (u := .dK []) (d := .dK [] []) hD fun Lv _ => ⟨[], rfl, rfl, by rw [sizeLine_eq]; exact Nat.zero_le _, rfl⟩
    rw [List.append_assoc, List.append_assoc] at z
    exact z
  have f2 : Fine n P S2 en := ⟨fi.len, fi.pin⟩
  unfold disp1D at Po
  refine rd W S2 σ _ en _ f2 I2 ?_
  have lift : ∀ {C : Addr} {fs : Xf} {en' : En} {tmp : List (Dn.D × V)}, (∀ q ∈ S.tmp, q ∈ tmp) → PoX K S W σ C fs en' → PoX K (S.c (some (.ref D)) (some (.fl (.dK [] []))) tmp) W σ C fs en' := fun {C fs en' tmp} sub h dO H' ws J x => by
    refine h dO H' ws ?_ x
    have J' : ER K S.F ((σ ++ S.xv) ++ [some (V.ref D)]) H' ((en' ++ S.xo) ++ [some (O.fl (.dK [] []))]) ((xds fs).zip ws ++ tmp) := by
      rw [List.append_assoc, List.append_assoc]; exact J
    have l := J'.len
    simp only [List.length_append, List.length_cons, List.length_nil] at l
    have z := ER.freeze J' fun q hq => ?_
    · exact z.sub fun q hq => List.mem_cons_of_mem _ ((List.mem_append.mp hq).elim (fun y => List.mem_append_left _ y) fun y => List.mem_append_right _ (sub q y))
    · have l1 := (fi.pin q hq).1
      have l4 := Stt.len I
      have l5 := fi.len
      simp only [List.length_append]
      omega
  cases q : f en with
  | bad => rw [q] at Po; exact Po
  | ex C fs en' => rw [q] at Po; exact lift (fun q h => h) Po
  | ok kk en1 =>
    rw [q, bind_ok] at Po
    intro yk H1 J1
    have f3 := f2.to I2 (ER.pop J1) rfl
    refine rd2 W (S2.w ((kk, yk) :: S.tmp)) σ H1 en1 _ (f3.w _) J1 ?_
    cases q2 : g en1 with
    | bad => rw [q2] at Po; exact Po
    | ex C fs en' => rw [q2] at Po; exact lift (fun q h => List.mem_cons_of_mem _ h) Po
    | ok y en2 =>
      rw [q2, bind_ok] at Po
      intro v H2 J2
      unfold disp1K at Po
      cases q3 : keyK kk with
      | none => rw [q3] at Po; exact Po.elim
      | some key =>
        rw [q3] at Po
        have lx := S.xl
        have l5 := Stt.len J2
        have cell : (en2 ++ (S.xo ++ [some (O.fl (.dK [] []))]))[en2.length + S.xo.length]? = some (some (.fl (.dK [] []))) := by
          rw [← List.append_assoc, List.getElem?_append_right (by simp)]; simp
        obtain ⟨Lv5, a5, u5, op5, hv5, hu5, _, hc5, wr⟩ := ER.wr (i := en2.length + S.xo.length) J2 cell
        have ea : a5 = D := by
          have : (σ ++ (S.xv ++ [some (V.ref D)]))[en2.length + S.xo.length]? = some (some (.ref D)) := by
            rw [← List.append_assoc, ← lx, ← l5, List.getElem?_append_right (by simp)]; simp
          rw [show (σ ++ (S2.w ((kk, yk) :: S.tmp)).xv) = (σ ++ (S.xv ++ [some (V.ref D)])) from rfl, this] at hv5
          cases hv5; rfl
        subst ea
        cases u5 with
        | dK kvs =>
          obtain ⟨vs, rfl, _, _, hs⟩ := hc5
          have ek : yk = kV key := keyK_ok (op5.tm (kk, yk) (List.mem_cons_of_mem _ List.mem_cons_self)).root q3
          have ry := op5.tm (y, v) List.mem_cons_self
          refine ⟨hu5, [(key, v)], by rw [ek]; rfl, by show 1 ≤ 15; omega, Po _ _ ?_⟩
          have nw := wr (.dK (mergeK [] [(key, v)])) (.dK [key] [y]) ⟨[v], rfl, rfl, by rw [sizeLine_eq]; show 1 ≤ 16777216; omega, v, [], rfl, ry, rfl⟩
          have se : (en2 ++ (S.xo ++ [some (O.fl (.dK [] []))])).set (en2.length + S.xo.length) (some (.fl (.dK [key] [y]))) = en2 ++ (S.xo ++ [some (.fl (.dK [key] [y]))]) := by
            rw [← List.append_assoc, List.set_append_right _ _ (by simp), ← List.append_assoc]; simp
          rw [show (en2 ++ (S2.w ((kk, yk) :: S.tmp)).xo) = (en2 ++ (S.xo ++ [some (O.fl (.dK [] []))])) from rfl, se] at nw
          exact nw.pop.pop
        | _ => exact hc5.elim
theorem mem1 {α : Type} {a : α} {p : α → Prop} (h : p a) : ∀ c ∈ [a], p c := fun c hc => by rw [List.mem_singleton.mp hc]; exact h
end
end Dn
/-! The law's own promise. -/
namespace Dn
open PySem PySem.Spec PyProof.Rows L2

/-- the law's def, asked at a script: True -/
def spLaw (K : PySem.W.Frag) : Sp := fun vs H Q _ => ∃ (a : Addr) (ns : List Int), vs = [.ref a] ∧ ScL K H a ns ∧ ns.length ≤ 63 ∧ ∀ H', Q (.bl true) H'
theorem law_imp {K : PySem.W.Frag} {F : Fn} (h : ∀ ns : List Int, ns.length ≤ 63 → ∃ ps : En, ps.length = 1 ∧ F [.val (.sc ns)] = .ok (.val (.bl true)) ps) (vs : List V) (H : Hp) (Q : VK) (E : XK) (q : spLaw K vs H Q E) : SpD K F vs H Q E := by
  obtain ⟨a, ns, rfl, hs, hl, k⟩ := q
  obtain ⟨ps, lp, e⟩ := h ns hl
  refine ⟨⟨H, fun _ => False, fun _ => False, []⟩, [.val (.sc ns)], rfl, rfl, ⟨rfl, ⟨fun _ => [], ⟨fun i o e => ?_, fun i j b hb => (nomatch hb), fun i b hb => (nomatch hb)⟩, fun q hq => (nomatch hq)⟩, fun b o e _ => e, fun b hb => hb.elim, fun b hb => hb.elim, fun q hq => (nomatch hq)⟩, ?_⟩
  · cases i with
    | zero =>
      cases e
      exact ⟨.ref a, rfl, rfl, a, rfl, hs, by rw [sizeLine_eq]; omega⟩
    | succ i => simp at e
  · rw [e]
    intro v H' _ J
    obtain ⟨Lv, op, _⟩ := J.opn
    obtain ⟨v', e', r⟩ := op.sl 1 (.val (.bl true)) (by rw [List.getElem?_append_right (by rw [lp]; exact Nat.le_refl _), lp]; rfl)
    have e2 : ((([V.ref a].map some) ++ [some v])[1]? : Option (Option V)) = some (some v) := rfl
    rw [e2] at e'
    cases e'
    have r : v = .bl true := r
    rw [r]; exact k H'
theorem sc_of {K : PySem.W.Frag} {H : Hp} {a : Addr} {ns : List Int} (o : Only H) (h : SqL K H a (ns.map V.int)) : ScL K H a ns := by
  rcases h with (h | ⟨u, h⟩) | h
  · rcases o a with z | ⟨u, xs, z⟩
    · rw [z] at h; cases h
    · rw [z] at h; cases h
  · exact .inl ⟨u, h⟩
  · exact .inr h
theorem fn_never {P : Program} {w : World} {K : PySem.W.Frag} {mg : Str → Option Value} {base : Heap} {CX : CXT} {k : Nat} {f : Addr} {fd : FuncData} {ps : List Str} : FnOk P w K mg base CX k f fd ps (SpD K fun _ => .bad) :=
  ⟨fun vs H Q E ⟨_, _, _, _, _, h⟩ => h.elim, fun A outer s H args us vs Q E hr he hb hv ⟨_, _, _, _, _, h⟩ => h.elim⟩
/-- an error of the class at Y is, or is not, what «except S» names -/
theorem exm_by {K : PySem.W.Frag} {Y S : Addr} {b : Bool} (h1 : PySem.W.subIn K (.ref Y) (.type "BaseException") = some true) (h2 : PySem.W.isClsIn K S = true) (h2' : PySem.W.subIn K (.ref S) (.type "BaseException") = some true) (h3 : PySem.W.typeIn K (.ref S) = some (.type "type")) (h4 : PySem.W.subIn K (.ref Y) (.ref S) = some b) :
    PySem.W.exmOne K (.ref Y) (.ref S) = some b := by
  have e1 : (PySem.W.subIn K (.ref S) (.type "BaseException") == some true) = true := by rw [h2'] <;> rfl
  have e0 : (PySem.W.subIn K (.ref Y) (.type "BaseException") == some true) = true := by rw [h1] <;> rfl
  have e2 : ((PySem.W.clsIn K S).isSome && PySem.W.typeIn K (.ref S) == some (.type "type")) = true := by
    have h2' : (PySem.W.clsIn K S).isSome = true := h2
    rw [h2', h3] <;> rfl
  unfold PySem.W.exmOne
  first
    | (show (if (PySem.W.subIn K (.ref S) (.type "BaseException") == some true) = true then (if ((PySem.W.clsIn K S).isSome && PySem.W.typeIn K (.ref S) == some (.type "type")) = true then PySem.W.subIn K (.ref Y) (.ref S) else none) else none) = some b
       rw [if_pos e1, if_pos e2]
       exact h4)
    | (show (if (PySem.W.subIn K (.ref Y) (.type "BaseException") == some true) = true then (if ((PySem.W.clsIn K S).isSome && PySem.W.typeIn K (.ref S) == some (.type "type")) = true then PySem.W.subIn K (.ref Y) (.ref S) else none) else none) = some b
       rw [if_pos e0, if_pos e2]
       exact h4)
theorem cx_never {P : Program} {w : World} {H : Hp} {s : Shared} {e : Value} {s' : Shared} (h : L2.CX P w [] H s (fun _ _ _ => False) e s') : False := let ⟨_, _, _, _, _, _, _, _, _, _, _, _, z⟩ := h; z
end Dn
/-! Clauses of which some name the error and some do not; name op= value. -/
namespace Dn
open PySem PySem.Spec PyProof.Rows L2

/-- a clause: its class, the slot of its name (if it has one), its suite -/
abbrev Mc := Value × Option Nat × (Addr → Value → Option Addr → TS)
/-- the ends of a suite whose name goes behind it -/
def Ends.cut (i : Nat) (B : Ends) : Ends := ⟨fun σ H => B.nx (σ.set i none) H, B.rt, fun σ H => B.bk (σ.set i none) H, fun σ H => B.ct (σ.set i none) H⟩
def oneMc (K : PySem.W.Frag) (q : Mc) (B : Ends) (rest : WX) : WX := fun cls d σ H => ∃ b : Bool,
  PySem.W.exmOne K cls q.1 = some b ∧
  (b = true → ∀ a : Addr, H a = none → match q.2.1 with
    | none => q.2.2 a cls d B σ H
    | some i => q.2.2 a cls d (Ends.cut i B) (σ.set i (some (.ref a))) H) ∧
  (b = false → rest cls d σ H)
def allMc (K : PySem.W.Frag) (W : WX) (B : Ends) : List Mc → WX
  | [] => W
  | q :: r => oneMc K q B (allMc K W B r)
inductive McOk (X : Cx) : List ExceptHandler → List Mc → Prop
  | nil : McOk X [] []
  | more {x : Str} {c : Value} {nm : Option Str} {io : Option Nat} {ts : Addr → Value → Option Addr → TS} {b₀ : Stmt} {su : List Stmt} {p1 p2 : Pos} {hds : List ExceptHandler} {l : List Mc}
      (hc : Names X x c) (hn : match nm, io with
        | none, none => True
        | some y, some i => X.N[i]? = some y ∧ X.env.kindOf y = some .local
        | _, _ => False)
      (hsu : ∀ (a : Addr) (oe : Obj) (cls : Value) (d : Option Addr) (pn : List (Addr × Obj)), Zc cls d oe → (∃ vs, oe.data = .fields vs) → PSs (X.suite a ((a, oe) :: pn)) (b₀ :: su) (ts a cls d))
      (r : McOk X hds l) : McOk X (.ExceptHandler (some (.Name x p1)) nm (b₀ :: su) p2 :: hds) ((c, io, ts) :: l)
section
variable {X : Cx} {body : List Stmt} {h₀ : ExceptHandler} {hds : List ExceptHandler} {l : List Mc} {pos : Pos} {tb : WX → TS} {W : WX}
theorem ps_tryMc (hs : X.stack = X.env :: X.outer) (hf : X.env.frame = some X.env.locals) (hN : X.N.Nodup) (tk : Takes X W)
    (hb : ∀ (U : WX) (pn : List (Addr × Obj)) (xe : Value → Shared → Prop), Takes (X.tr pn xe) U → PassesOwn (model X.prog X.w) X.A X.env xe →
      PSs (X.tr pn xe) body (tb U))
    (hh : McOk X (h₀ :: hds) l) : PS X (.Try body (h₀ :: hds) [] [] pos) (fun B σ H => tb (allMc X.K W B l) B σ H) := by
  refine ⟨fun pins s σ H B I h => ?_⟩
  have ok := I.ok
  refine wpAny_Try_except (wpAny_mono ((hb (allMc X.K W B l) (X.pn ++ pins)
    (fun e s₁ => wpAny (model X.prog X.w) X.A (noteFrame e X.env)
      (fun _ s₂ => wpAny (model X.prog X.w) X.A (setFlight e none)
        (fun _ s₃ => wpAny (model X.prog X.w) X.A (handleBy e X.env (h₀ :: hds))
          (SP X pins B) X.xe s₃) X.xe s₂) X.xe s₁)
    (fun u s' xx => ?caught) PassesOwn.looking).run [] s σ H B (I.toTry _) h) (fun f s1 hsp => ?thru) (fun e s1 he => he))
  case thru =>
    cases f with
    | ret u =>
      obtain ⟨v, σ1, H1, J1, r, q⟩ := hsp
      exact ⟨v, σ1, H1, J1.ofTry ok, r, q⟩
    | next =>
      obtain ⟨σ1, H1, J1, q⟩ := hsp
      exact wpAny_execs_nil ⟨σ1, H1, J1.ofTry ok, q⟩
    | brk =>
      obtain ⟨σ1, H1, J1, q⟩ := hsp
      exact ⟨σ1, H1, J1.ofTry ok, q⟩
    | cont =>
      obtain ⟨σ1, H1, J1, q⟩ := hsp
      exact ⟨σ1, H1, J1.ofTry ok, q⟩
  case caught =>
    obtain ⟨a, Bd, sI, _, σ', H', cls, d, rfl, J0, nb, up, sky, na, os, ag, w⟩ := xx
    have J := J0.ofTry ok
    rw [hs] at sky
    show wpAny (model X.prog X.w) X.A (noteFrame (.ref a) X.env) _ _ _
    refine Sky.land Zc.steady (by rw [ok.frames, hs]) hf sky fun h3 fl3 up3 => ?_
    -- the raised object stands apart
    have apart : ∀ {h : Heap} {fl : Heap.FunFrames h Bd (X.env :: X.outer)} {o : Obj} {vs : Array Value},
        h.get? a = some o → o.data = .fields vs → a ≠ X.env.locals ∧ a ∉ X.fs := fun {h fl o vs} e dd => by
      have nf : a ∉ frs (X.env :: X.outer) := fun hm => by
        obtain ⟨_, o', e', hnf⟩ := fl.mem hm
        rw [e] at e'
        cases e'
        exact hnf _ dd
      refine ⟨fun z => nf (List.mem_filterMap.mpr ⟨X.env, List.mem_cons_self, by rw [hf, z]⟩), fun hm => ?_⟩
      obtain ⟨en, he, q⟩ := List.mem_filterMap.mp hm
      exact nf (List.mem_filterMap.mpr ⟨en, List.mem_cons_of_mem _ he, q⟩)
    have J3 : Inv X pins σ' H' { s' with heap := h3 } := J.landed nb fl3.1 (up.trans up3) os ag
    obtain ⟨oe3, vs3, he3, hz3, hd3⟩ := fl3.there
    obtain ⟨nL, nF⟩ := apart (fl := fl3.2.2.1) he3 hd3
    have S3 := J3.suite he3 hd3 na nL nF
    have all : ∀ {hs2 : List ExceptHandler} {l2 : List Mc}, McOk X hs2 l2 → allMc X.K W B l2 cls d σ' H' →
        wpAny (model X.prog X.w) X.A (handleBy (.ref a) X.env hs2) (SP X pins B) X.xe { s' with heap := h3 } := by
      intro hs2 l2 hk
      induction hk with
      | nil =>
        intro w
        obtain ⟨_, _, _, oe, vs, T, oT, ts', he, hz, hd, h1, _⟩ := id fl3
        refine wpAny_handleBy_nil ?_
        unfold PySem.passOn
        refine wpAny_bind (wpAny_field he hd h1 ?_)
        have nn : ¬ ((Value.ref T == Value.none) = true) := by simp
        rw [if_neg nn]
        have last : wpAny (model X.prog X.w) X.A (setFlight (.ref a) X.env.frame)
            (fun _ s4 => wpAny (model X.prog X.w) X.A (throw (.ref a) : Sem Flow) (SP X pins B) X.xe s4) X.xe { s' with heap := h3 } := by
          rw [hf]
          exact HandSPX.setFlight_upZ fl3 fun h4 hh4 up4 => wpAny_throw (tk _ _
            ⟨a, Bd, sI, pins, σ', H', cls, d, rfl, J, nb, (up.trans up3).trans up4, .inr (.inr (by rw [hs]; exact hh4)), na, os, ag, w⟩)
        first
          | exact wpAny_bind last
          | exact wpAny_bind (wpAny_pure (wpAny_bind last))
      | @more x c nm io ts b₀ su p1 p2 hds2 l2 hc hn hsu r ih =>
        intro w
        obtain ⟨b, hb1, hyes, hno⟩ := w
        refine wpAny_handleBy_cons (codeAny_handlers_test ?_) (by intro q; cases q)
        have LM := PySem.W.exm_one (M := model X.prog X.w) (J3.kIn)
          (fun A Q E s k q => wpAny_typeOf_ref (k _ _ he3) (by rw [hz3.1]; exact q)) hb1
        have asked : ∀ {Q E : Value → Shared → Prop}, Q c { s' with heap := h3 } →
            wpAny (model X.prog X.w) (X.A.mark (some (.ref a))) (eval (.Name x p1) X.env) Q E { s' with heap := h3 } := fun {Q E} q => by
          obtain ⟨hg, hdbg, hm | ⟨hm, hv, hnn⟩⟩ := hc
          · exact ld_glob (X := X.suite a ((a, oe3) :: (X.pn ++ pins))) S3 hg hm q hdbg
          · exact ld_blt (X := X.suite a ((a, oe3) :: (X.pn ++ pins))) S3 hg hm hv q hnn hdbg
        refine asked (LM.here ?_)
        cases b with
        | false => exact ih (hno rfl)
        | true =>
          have hy := hyes rfl a na
          cases nm with
          | none =>
            cases io with
            | some i => exact hn.elim
            | none =>
              refine codeAny_handlers_suite (HandSPX.lands_againZ fl3 fun h4 fl4 up4 => ?_)
              have J4 : Inv X pins σ' H' { s' with heap := h4 } := J.landed nb fl4.1 ((up.trans up3).trans up4) os ag
              obtain ⟨oe4, vs4, he4, hz4, hd4⟩ := fl4.there
              have S4 := J4.suite he4 hd4 na nL nF
              refine wpAny_mono ((hsu a oe4 cls d (X.pn ++ pins) hz4 ⟨_, hd4⟩).run [] _ _ H' _ S4 hy) (fun f s6 hsp => ?_) (fun _ _ z => False.elim z)
              cases f with
              | ret u =>
                obtain ⟨v6, σ6, H6, S6, r6, q6⟩ := hsp
                exact ⟨v6, σ6, H6, S6.unsuite ok, r6, q6⟩
              | next | brk | cont =>
                obtain ⟨σ6, H6, S6, q6⟩ := hsp
                exact ⟨σ6, H6, S6.unsuite ok, q6⟩
          | some y =>
            cases io with
            | none => exact hn.elim
            | some i =>
              obtain ⟨hi, hln⟩ := hn
              refine codeAny_handlers_suite_as (HandSPX.lands_againZ fl3 fun h4 fl4 up4 => ?_)
              have J4 : Inv X pins σ' H' { s' with heap := h4 } := J.landed nb fl4.1 ((up.trans up3).trans up4) os ag
              obtain ⟨oe4, vs4, he4, hz4, hd4⟩ := fl4.there
              have S4 := J4.suite he4 hd4 na nL nF
              refine store_ok (X := X.suite a ((a, oe4) :: (X.pn ++ pins))) (v := .ref a) S4 hN hi (.inl hln) rfl (fun s5 S5 => ?_) (.inr hln)
              refine wpAny_mono ((hsu a oe4 cls d (X.pn ++ pins) hz4 ⟨_, hd4⟩).run [] s5 _ H' _ S5 hy) (fun f s6 hsp => ?_) (fun _ _ z => False.elim z)
              have goes : ∀ {σ6 : L2.St} {H6 : Hp} {Q : Shared → Prop}, Inv (X.suite a ((a, oe4) :: (X.pn ++ pins))) [] σ6 H6 s6 →
                  (∀ s7, Inv X pins (σ6.set i none) H6 s7 → Q s7) →
                  wpAny (model X.prog X.w) X.A (do bindName X.env y .none; unbindBehindTheSuite X.env y p2) (fun _ s7 => Q s7) X.xe s6 :=
                fun {σ6 H6 Q} S6 hq => gone_ok (S6.unsuite ok) hN hi hln hq
              cases f with
              | ret u =>
                obtain ⟨v6, σ6, H6, S6, r6, q6⟩ := hsp
                exact goes S6 fun s7 J7 => ⟨v6, σ6.set i none, H6, J7, r6, q6⟩
              | next | brk | cont =>
                obtain ⟨σ6, H6, S6, q6⟩ := hsp
                exact goes S6 fun s7 J7 => ⟨σ6.set i none, H6, J7, q6⟩
    exact all hh w
end

/-- a clause over data: its class; what it does with an error of that class and its fields -/
abbrev ClX := (Addr → Option Bool) × (Addr → Xf → En → Out Fl)
def plainC (h : En → Out Fl) : Addr → Xf → En → Out Fl := fun _ _ en => h en
def fieldC (C : Addr) (h : List Str → List D → Option (List D)) : Addr → Xf → En → Out Fl := fun C' fs en => if C' = C then match fs with
  | some (ns, ds) => match h ns ds with
    | some out => if out.length ≤ 1000 then .ok (.rt (.val (.tup out))) en else .bad
    | none => .bad
  | none => .bad
  else .bad
def hdlX : List ClX → Addr → Xf → En → Out Fl
  | [], C, fs, en => .ex C fs en
  | (m, h) :: r, C, fs, en => match m C with
    | some true => match h C fs en with
      | .ok fl en' => .ok fl en'
      | _ => .bad
    | some false => hdlX r C fs en
    | none => .bad
def tryX (g : En → Out Fl) (cs : List ClX) : En → Out Fl := fun en => match g en with
  | .ex C fs en' => hdlX cs C fs en'
  | o => o
section
variable {ι : Type} {X : ι → Cx} {Wf : ι → WX} {K : PySem.W.Frag} {n : Nat} {P : Nat → Bool} {s : Stmt} {e b : Expr} {pos : Pos}
inductive DMs (X : ι → Cx) (K : PySem.W.Frag) (n : Nat) (P : Nat → Bool) : List ExceptHandler → List ClX → Prop
  | nil : DMs X K n P [] []
  | un {x : Str} {c : Value} {b₀ : Stmt} {suite : List Stmt} {np pos' : Pos} {hds : List ExceptHandler} {m : Addr → Option Bool} {h : En → Out Fl} {r : List ClX} (hc : ∀ i, Names (X i) x c) (hm : ∀ C b, m C = some b → PySem.W.exmOne K (.ref C) c = some b)
      (hs : DSs (suF X) (fun _ => W0) K n P (b₀ :: suite) h) (hr : DMs X K n P hds r) : DMs X K n P (.ExceptHandler (some (.Name x np)) none (b₀ :: suite) pos' :: hds) ((m, plainC h) :: r)
  | nm {i : Nat} {x y : Str} {C : Addr} {np p1 p2 p3 : Pos} {kk : Nat} {es : List Expr} {hds : List ExceptHandler} {m : Addr → Option Bool} {h : List Str → List D → Option (List D)} {r : List ClX} (hi : ∀ k, (X k).N[i]? = some y) (hln : ∀ k, (X k).env.kindOf y = some .local)
      (hc : ∀ i, Names (X i) x (.ref C)) (hin : i < n) (hm : ∀ C' b, m C' = some b → PySem.W.exmOne K (.ref C') (.ref C) = some b) (hx : DXs X i C es h) (hr : DMs X K n P hds r) :
      DMs X K n P (.ExceptHandler (some (.Name x np)) (some y) [.Return (some (.Tuple es kk p1)) p2] p3 :: hds) ((m, fieldC C h) :: r)
theorem DMs.ok {hds : List ExceptHandler} {cs : List ClX} (h : DMs X K n P hds cs) : ∃ l : List Mc, (∀ i, McOk (X i) hds l) ∧
    ∀ (Wout : WX) (S : Su) (B : Ends) σ C fs en dO H ws, Fine n P S en → Stt K S σ H en ((xds fs).zip ws ++ S.tmp) → Xat H fs dO ws → PoS K S Wout σ B (hdlX cs C fs en) → allMc K Wout B l (.ref C) dO σ H := by
  induction h with
  | nil => exact ⟨[], fun _ => .nil, fun Wout S B σ C fs en dO H ws fi I xa Po => Po σ dO H ws rfl I xa⟩
  | @un x c b₀ suite np pos' hds m h r hc hm hs hr ih =>
    obtain ⟨l, hl, rd⟩ := ih
    obtain ⟨t, p, r2⟩ := hs.ex
    refine ⟨(c, none, fun _ _ _ => t W0) :: l, fun i => .more (hc i) trivial (fun a oe cls d pn hz hf => p ⟨i, a, oe, cls, d, pn, hz, hf⟩) (hl i), fun Wout S B σ C fs en dO H ws fi I xa Po => ?_⟩
    unfold hdlX at Po
    cases q : m C with
    | none => rw [q] at Po; exact Po.elim
    | some b =>
      rw [q] at Po
      refine ⟨b, hm C b q, fun eb a na => ?_, fun eb => ?_⟩
      · subst eb
        refine r2 W0 S σ H en B fi (ER.sub I fun q hq => List.mem_append_right _ hq) ?_
        simp only [plainC] at Po
        cases q2 : h en with
        | ok fl en' =>
          simp only [q2] at Po
          cases fl with
          | nx => exact Po
          | bk => exact Po
          | ct => exact Po
          | rt o => exact Po
        | ex C' fs' en' => simp only [q2] at Po; exact Po.elim
        | bad => simp only [q2] at Po; exact Po.elim
      · subst eb
        exact rd Wout S B σ C fs en dO H ws fi I xa Po
  | @nm i x y C np p1 p2 p3 kk es hds m h r hi hln hc hin hm hx hr ih =>
    obtain ⟨l, hl, rd⟩ := ih
    obtain ⟨tx, px, rx⟩ := hx.ex
    refine ⟨(.ref C, some i, fun a c d => tRet (tTup (tx a c d))) :: l, fun k => .more (hc k) ⟨hi k, hln k⟩ (fun a oe cls d pn hz hf => pss_one (ps_ret (pos := p2) (pe_tup (pos := p1) (x1 := kk) (px ⟨k, a, oe, cls, d, pn, hz, hf⟩)))) (hl k), fun Wout S B σ C' fs en dO H ws fi I xa Po => ?_⟩
    unfold hdlX at Po
    cases q : m C' with
    | none => rw [q] at Po; exact Po.elim
    | some b =>
      rw [q] at Po
      refine ⟨b, hm C' b q, fun eb a na => ?_, fun eb => ?_⟩
      · subst eb
        simp only [fieldC] at Po
        by_cases c : C' = C
        · rw [if_pos c] at Po
          subst c
          cases fs with
          | none => exact Po.elim
          | some f =>
            obtain ⟨ns, ds⟩ := f
            simp only at Po
            cases qo : h ns ds with
            | none => rw [qo] at Po; exact Po.elim
            | some out =>
              rw [qo] at Po
              simp only at Po
              by_cases hlen : out.length ≤ 1000
              · rw [if_pos hlen] at Po
                obtain ⟨lw, ln, d, ed, hd⟩ := xa
                subst ed
                obtain ⟨Lv, op, k⟩ := ER.opn I
                have lw : ws.length = ds.length := lw
                have rl : RepL K H Lv ds ws := RepL.of lw fun j d v e1 e2 => op.tm (d, v) (List.mem_append_left _ (by
                  refine List.mem_iff_getElem?.mpr ⟨j, ?_⟩
                  show ((xds (some (ns, ds))).zip ws)[j]? = some (d, v)
                  exact List.getElem?_zip_eq_some.mpr ⟨e1, e2⟩))
                have hi' : i < σ.length := by rw [Stt.len I, fi.len]; exact hin
                refine rx K Lv a d _ H ns ds ws out _ (by rw [List.getElem?_set_self hi']) hd rl qo fun us ru => ⟨by rw [ru.length]; exact le1000 hlen, fun p hp => ?_⟩
                have gr := Grow.upd (u := .tup us) hp
                have J2 : Stt K S σ (upd H p (.tup us)) en ((.tup out, .ref p) :: S.tmp) := k _ _ gr fun q hq => by
                  rcases List.mem_cons.mp hq with rfl | hq
                  · exact .inr ⟨p, us, rfl, upd_same, le1000 hlen, ru.mono gr.keep⟩
                  · exact .inl (List.mem_append_right _ hq)
                have J3 := ER.thaw J2
                rw [List.append_assoc, List.append_assoc] at J3
                exact Po (.ref p) σ _ rfl J3
              · rw [if_neg hlen] at Po; exact Po.elim
        · rw [if_neg c] at Po; exact Po.elim
      · subst eb
        exact rd Wout S B σ C' fs en dO H ws fi I xa Po
theorem ds_tryX {body : List Stmt} {h₀ : ExceptHandler} {hds : List ExceptHandler} {g : En → Out Fl} {cs : List ClX} (hs : ∀ i, (X i).stack = (X i).env :: (X i).outer) (hf : ∀ i, (X i).env.frame = some (X i).env.locals) (hK : ∀ i, (X i).K = K) (hN : ∀ i, (X i).N.Nodup) (tk : ∀ i, Takes (X i) (Wf i))
    (hb : DSs (trF X) (trW X) K n P body g) (hh : DMs X K n P (h₀ :: hds) cs) : DS X Wf K n P (.Try body (h₀ :: hds) [] [] pos) (tryX g cs) := by
  obtain ⟨t, p, r⟩ := hb.ex
  obtain ⟨l, hl, rd⟩ := hh.ok
  refine ⟨fun W => fun D σ H => t (allMc K W D l) D σ H, fun i => by
    have := ps_tryMc (pos := pos) (hs i) (hf i) (hN i) (tk i) (fun W pn xe tk po => p ⟨i, W, pn, xe, tk, po⟩) (hl i)
    rw [hK i] at this
    exact this, fun W S σ H en B fi I Po => r (allMc K W B l) S σ H en B fi I ?_⟩
  unfold tryX at Po
  cases q : g en with
  | ok fl en' =>
    rw [q] at Po
    cases fl with
    | nx => exact Po
    | bk => exact Po
    | ct => exact Po
    | rt o => exact Po
  | bad => rw [q] at Po; exact Po
  | ex C fs en' =>
    rw [q] at Po
    intro σ' dO H' ws l' J xa
    have fj : Fine n P S en' := fi.to I J l'
    exact rd W S B σ' C fs en' dO H' ws fj J xa (PoS.len Po l')

/-! ### name op= value -/
theorem slotRun {W : WX} {S : Su} {σ : L2.St} {H : Hp} {en : En} {j : Nat} {Q : VK} (fi : Fine n P S en) (I : Stt K S σ H en S.tmp) (Po : PoA K S W σ Q (slotA j en)) : tVar j σ H Q := by
  unfold slotA at Po
  split at Po
  · rename_i o q
    obtain ⟨Lv, op, k⟩ := ER.opn I
    obtain ⟨v, e, _⟩ := op.sl j o (getE q)
    have hi : j < σ.length := by rw [Stt.len I]; exact (List.getElem?_eq_some_iff.mp q).1
    rw [List.getElem?_append_left hi] at e
    exact ⟨v, e, Po v H S.tmp (fun _ h => h) I e⟩
  · exact Po.elim
theorem ds_aug {i : Nat} {r : R2} {g : D → D → Option D} {f : En → Out AR} (hi : i < n) (hP : P i = false) (hr : Ok2 K r g) (hb : DA X Wf K n P b f) (mk : ∀ k t, PE (X k) b t → PS (X k) s (tAug i t r)) : DS X Wf K n P s (setD i (op2 g (slotA i) f)) := by
  obtain ⟨t, p, rd⟩ := hb.ex
  refine ⟨fun W => tAug i (t W) r, fun k => mk k _ (p k), fun W S σ H en B fi I Po => ?_⟩
  have run := run2 (W := W) hr (f := slotA i) (ta := tVar i) (fun S σ H en Q fi I Po => slotRun (W := W) fi I Po) (rd W) S σ H en (fun z H2 => B.nx (σ.set i (some z)) H2) fi I
  refine run ?_
  unfold setD at Po
  cases q : op2 g (slotA i) f en with
  | ok d en' =>
    rw [q] at Po
    intro v H1 J
    have l : i < σ.length := by rw [Stt.len I, fi.len]; exact hi
    have l' : i < en'.length := by rw [← Stt.len J]; exact l
    refine Po (σ.set i (some v)) H1 (by simp) ?_
    have := ER.set (i := i) J (pinNe fi hP)
    rw [List.set_append_left _ _ l, List.set_append_left _ _ l'] at this
    exact this
  | ex C fs en' => rw [q] at Po; exact Po.x
  | bad => rw [q] at Po; exact Po
end

def min2 : List D → Option D
  | [.int i, .int j] => some (.int (if j < i then j else i))
  | _ => none
theorem ok_min2 {K : PySem.W.Frag} : OkN K (fun xs H Q => ∃ i j, xs = [.int i, .int j] ∧ Q (.int (if j < i then j else i)) H) min2 := fun H Lv vs ds c Q mu rr ec q => by
  unfold min2 at ec
  split at ec
  · cases ec
    obtain ⟨v, w, rfl, r1, r2⟩ := rr.two
    cases (show v = .int _ from r1); cases (show w = .int _ from r2)
    exact ⟨_, _, rfl, q _ H Grow.refl rfl⟩
  · cases ec
theorem g_addJ {i j : Int} : addI (.int i) (.int j) = some (.int (i + j)) := rfl
theorem g_min2 {i j : Int} : min2 [.int i, .int j] = some (.int (if j < i then j else i)) := rfl
theorem x_tryX {g : En → Out Fl} {cs : List ClX} {o : Option O} {en : En} : tryX g cs (o :: en) = match g (o :: en) with | .ex C fs en' => hdlX cs C fs en' | q => q := rfl
end Dn
/-! A tuple times 0, 1 and more. -/
namespace Dn
open PySem PySem.Spec PyProof.Rows L2
theorem mulOnce (l : Addr) (items : Array Value) (n : Nat) (dd : Option Addr) (sl : Array (Option Value)) (u : Tok) :
    Meets (Builtin.«tuple.__mul__» ⟨[.ref l, .int 1 u], []⟩) (fun _ R s => s.heap.get? l = some { cls := .type "tuple", dict := dd, data := .seq items n, slots := sl } ∧
      R (.ok (.ret (Value.ref l))) s) :=
  .of_wp fun prog w A R s h => by
    obtain ⟨hp, g, d, tk, os⟩ := s
    obtain ⟨hl, h⟩ := h
    have f1 := AutoSeq1.idx_int
    have c1 : (items.isEmpty || (1 : Int) == 1) = true := by rw [beq_self_eq_true, Bool.or_true]
    wp_walk using wpAny_loadPart' hl
    repeat (first
      | (refine wpAny_ite_false (decide_eq_false (by decide)) ?_; wp_walk using wpAny_loadPart' hl)
      | (refine wpAny_ite_true (decide_eq_true c1) ?_; wp_walk using wpAny_loadPart' hl))
    exact ⟨_, rfl, h⟩
theorem mulNone (l : Addr) (items : Array Value) (n : Nat) (dd : Option Addr) (sl : Array (Option Value)) (x : Int) (u : Tok) (hx : x ≤ 0) (hb : -1000 ≤ x) (hi : items.isEmpty = false) :
    Meets (Builtin.«tuple.__mul__» ⟨[.ref l, .int x u], []⟩) (fun _ R s => s.heap.get? l = some { cls := .type "tuple", dict := dd, data := .seq items n, slots := sl } ∧
      R (.ok (.ret (Value.ref s.heap.objs.size))) { s with heap := s.heap.push { cls := Value.type "tuple", data := Data.seq #[] }, toks := s.toks }) :=
  .of_wp fun prog w A R s h => by
    obtain ⟨hp, g, d, tk, os⟩ := s
    obtain ⟨hl, h⟩ := h
    have f1 := AutoSeq1.idx_int
    have c0 : ¬ ((decide (x < -(2 ^ 63)) || decide (x ≥ 2 ^ 63)) = true) := by
      rw [decide_eq_false (by omega), decide_eq_false (by omega)]; exact Bool.false_ne_true
    have c1 : ¬ ((items.isEmpty || x == 1) = true) := by
      rw [hi, Bool.false_or]
      exact fun z => absurd (eq_of_beq z) (by omega)
    have c2 : (decide (x ≤ 0) || items.isEmpty) = true := by rw [decide_eq_true hx]; rfl
    wp_walk using wpAny_loadPart' hl
    repeat (first
      | (refine wpAny_ite_false (decide_eq_false c0) ?_; wp_walk using wpAny_loadPart' hl)
      | (refine wpAny_ite_false (decide_eq_false c1) ?_; wp_walk using wpAny_loadPart' hl)
      | (refine wpAny_ite_true (decide_eq_true c2) ?_; wp_walk using wpAny_loadPart' hl))
    exact ⟨_, rfl, h⟩
def rRep1 (K : PySem.W.Frag) : R2 := fun x y H Q => ∃ l xs, x = .ref l ∧ y = .int 1 ∧ SqT K H l xs ∧ Q (.ref l) H
def rRep0 (K : PySem.W.Frag) : R2 := fun x y H Q => ∃ l k xs, x = .ref l ∧ y = .int k ∧ k ≤ 0 ∧ -1000 ≤ k ∧ SqT K H l xs ∧ xs ≠ [] ∧ ∀ p, H p = none → Q (.ref p) (upd H p (.tup []))
section
variable {X : Cx}
theorem op_rep1 : OpR X (binaryOp .Mult) (rRep1 X.K) := by
  intro pins s σ H x y v u Q I rx ry h
  obtain ⟨l, xs, rfl, rfl, hT, q⟩ := h
  cases rx
  obtain ⟨t, rfl⟩ := ry
  obtain ⟨its, r, ⟨⟨cls, dd, data, sl⟩, ho, hc, n, hd⟩, hs⟩ := I.tuple hT
  simp only at hc hd
  subst hc hd
  exact wpAny_binaryOp_repeat_ref (T := "tuple") (U := "int") (by decide) ⟨_, ho, rfl⟩ (fun s' => typeIs_int s' 1 t) noFill_tuple_mul F.fills_int_mul F.slot_int_rmul repeat_tuple F.slot_int_index.lookup
    (call_meets F.slot_int_rmul (typeIs_int s 1 t) F.entry_int_rmul (F.args_int_rmul_2 _ _) (int_rmul_tuple 1 t l its.toArray n dd sl)
      ⟨ho, rfl, ⟨_, ho, rfl⟩, call_meets F.slot_tuple_mul ⟨_, ho, rfl⟩ F.entry_tuple_mul (F.args_tuple_mul_2 _ _) (mulOnce l its.toArray n dd sl t) ⟨ho, ⟨.ref l, H, I, rfl, q⟩⟩⟩)
theorem op_rep0 : OpR X (binaryOp .Mult) (rRep0 X.K) := by
  intro pins s σ H x y v u Q I rx ry h
  obtain ⟨l, k, xs, rfl, rfl, h1, h2, hT, hne, q⟩ := h
  cases rx
  obtain ⟨t, rfl⟩ := ry
  obtain ⟨its, r, ⟨⟨cls, dd, data, sl⟩, ho, hc, n, hd⟩, hs⟩ := I.tuple hT
  simp only at hc hd
  subst hc hd
  have hi : its.toArray.isEmpty = false := by
    cases its with
    | nil => exact absurd (List.eq_nil_of_length_eq_zero r.length) hne
    | cons a b => rfl
  refine wpAny_binaryOp_repeat_ref (T := "tuple") (U := "int") (by decide) ⟨_, ho, rfl⟩ (fun s' => typeIs_int s' k t) noFill_tuple_mul F.fills_int_mul F.slot_int_rmul repeat_tuple F.slot_int_index.lookup
    (call_meets F.slot_int_rmul (typeIs_int s k t) F.entry_int_rmul (F.args_int_rmul_2 _ _) (int_rmul_tuple k t l its.toArray n dd sl)
      ⟨ho, rfl, ⟨_, ho, rfl⟩, call_meets F.slot_tuple_mul ⟨_, ho, rfl⟩ F.entry_tuple_mul (F.args_tuple_mul_2 _ _) (mulNone l its.toArray n dd sl k t h1 h2 hi) ⟨ho, ?_⟩⟩)
  refine ⟨.ref s.heap.objs.size, _, I.laid (t' := s.toks) (o := .tup []) (fun b ob q => Heap.get?_push_of_some _ q) (Nat.le_refl _) ?_, rfl, q _ (I.hok.fresh (Nat.le_refl _))⟩
  exact ⟨by simp, _, .nil, IsTup.new _ _⟩
end
def rRepA (K : PySem.W.Frag) : R2 := fun x y H Q => rRep1 K x y H Q ∨ rRep0 K x y H Q ∨ rRepT K x y H Q
theorem op_repA {X : Cx} : OpR X (binaryOp .Mult) (rRepA X.K) := op_rep1.or (op_rep0.or op_repT)
/-- t * k of a tuple that is not empty -/
def repA : D → D → Option D
  | .tup ds, .int k => if ds ≠ [] ∧ -1000 ≤ k ∧ k ≤ 1000 ∧ ds.length ≤ 1000 then some (.tup (List.replicate k.toNat ds).flatten) else none
  | _, _ => none
theorem ok_repA {K : PySem.W.Frag} : Ok2 K (rRepA K) repA := fun H Lv x y d e c Q mu r1 r2 ec q => by
  unfold repA at ec
  split at ec
  · rename_i ds k
    by_cases hc : ds ≠ [] ∧ -1000 ≤ k ∧ k ≤ 1000 ∧ ds.length ≤ 1000
    · rw [if_pos hc] at ec
      obtain ⟨h0, h1, h2, h3⟩ := hc
      have r10 := r1
      have r20 := r2
      cases (show y = .int k from r2)
      obtain ⟨a, vs, rfl, h, hz, hs⟩ := r1
      have l := hs.length
      by_cases k1 : k = 1
      · subst k1
        cases ec
        refine .inl ⟨a, vs, rfl, rfl, .inl (.inl h), q _ H Grow.refl ?_⟩
        have e : (List.replicate (1 : Int).toNat ds).flatten = ds := by simp
        rw [e]
        exact r10
      · by_cases k0 : k ≤ 0
        · cases ec
          have e : (List.replicate k.toNat ds).flatten = [] := by
            have : k.toNat = 0 := by omega
            rw [this]; rfl
          refine .inr (.inl ⟨a, k, vs, rfl, rfl, k0, h1, .inl (.inl h), fun z => h0 (List.length_eq_zero_iff.mp (by rw [← l, z]; rfl)), fun p hp => q _ _ (Grow.upd hp) ?_⟩)
          rw [e]
          exact ⟨p, [], rfl, upd_same, by simp, rfl⟩
        · refine .inr (.inr (ok_repT H Lv _ _ (.tup ds) (.int k) c Q mu r10 r20 ((if_pos ⟨h0, by omega, h2, h3⟩).trans ec) q))
    · rw [if_neg hc] at ec; cases ec
  · cases ec
theorem g_repA {xs : List D} {k : Int} (h : xs ≠ []) (h2 : -1000 ≤ k) (h3 : k ≤ 1000) (h4 : xs.length ≤ 1000) : repA (.tup xs) (.int k) = some (.tup (List.replicate k.toNat xs).flatten) := if_pos ⟨h, h2, h3, h4⟩

/-- xs * k of a list: a new object -/
def repL : D → D → Option D
  | .lst ds, .int k => if -1000000 ≤ k ∧ k ≤ 1000000 ∧ ds.length * k.toNat ≤ 16777216 then some (.lst (List.replicate k.toNat ds).flatten) else none
  | _, _ => none
def repLF (f h : En → Out AR) : En → Out O := fun en => (f en).bind fun a en => (h en).bind fun b en => liftO (((viewA en a).bind fun x => (viewA en b).bind fun y => repL x y).map .fl) en
section
variable {ι : Type} {X : ι → Cx} {Wf : ι → WX} {K : PySem.W.Frag} {n : Nat} {P : Nat → Bool} {a b : Expr} {pos : Pos}
theorem df_rep {f h : En → Out AR} (ha : DA X Wf K n P a f) (hb : DA X Wf K n P b h) : DF X Wf K n P (.BinOp a .Mult b pos) (repLF f h) := by
  obtain ⟨ta, pa, ra⟩ := ha.ex
  obtain ⟨tb, pb, rb⟩ := hb.ex
  refine ⟨fun W => tOp rRep (ta W) (tb W), fun i => pe_op op_rep (pa i) (pb i), fun W S σ H en Q fi I Po => ra W S σ H en _ fi I ?_⟩
  unfold repLF at Po
  cases q : f en with
  | ok ar en1 =>
    rw [q, bind_ok] at Po
    intro v H1 tmp1 s1 J h1
    refine rb W (S.w tmp1) σ H1 en1 _ ((fi.to I J rfl).w _) J ?_
    cases q2 : h en1 with
    | ok br en2 =>
      rw [q2, bind_ok] at Po
      intro u H2 tmp2 s2 J2 h2
      cases ec : (viewA en2 ar).bind fun x => (viewA en2 br).bind fun y => repL x y with
      | none => rw [ec] at Po; exact Po.elim
      | some c =>
        rw [ec] at Po
        obtain ⟨d, e1, ec⟩ := bind_some ec
        obtain ⟨d', e2, ec⟩ := bind_some ec
        obtain ⟨fp, ft, tm⟩ := ER.fit J2
        have r1 := (ft.opn J2 tm).arg (h1.mono s2) e1
        have r2 := (ft.opn J2 tm).arg h2 e2
        cases d with
        | lst ds =>
          cases d' with
          | int k =>
            unfold repL at ec
            simp only at ec
            by_cases hc : -1000000 ≤ k ∧ k ≤ 1000000 ∧ ds.length * k.toNat ≤ 16777216
            · rw [if_pos hc] at ec
              cases ec
              obtain ⟨ad, vs, rfl, hh, hz, hs⟩ := r1
              cases (show u = .int k from r2)
              refine ⟨ad, k, vs, rfl, rfl, hh, by omega, by omega, by rw [hs.length, sizeLine_eq]; exact hc.2.2, fun p hp => Po (.ref p) _ ?_⟩
              have N := ER.newOf J2 ft tm (p := p) (u := .lst (List.replicate k.toNat vs).flatten) (d := .lst (List.replicate k.toNat ds).flatten) hp ⟨by rw [rep_length, sizeLine_eq, Nat.mul_comm]; exact hc.2.2, hs.rep _⟩
              rw [List.append_assoc, List.append_assoc] at N
              exact N.sub fun q hq => s2 q (s1 q hq)
            · rw [if_neg hc] at ec; cases ec
          | _ => cases ec
        | _ => cases ec
    | ex C fs en' => rw [q2] at Po; exact PoX.w Po s1
    | bad => rw [q2] at Po; exact Po
  | ex C fs en' => rw [q] at Po; exact Po
  | bad => rw [q] at Po; exact Po
end
theorem x_repL {f h : En → Out AR} {o : Option O} {en : En} : repLF f h (o :: en) = (f (o :: en)).bind fun a en => (h en).bind fun b en => liftO (((viewA en a).bind fun x => (viewA en b).bind fun y => repL x y).map .fl) en := rfl
theorem g_repL {xs : List D} {k : Int} (h2 : -1000000 ≤ k) (h3 : k ≤ 1000000) (h4 : xs.length * k.toNat ≤ 16777216) : repL (.lst xs) (.int k) = some (.lst (List.replicate k.toNat xs).flatten) := if_pos ⟨h2, h3, h4⟩
end Dn
/-! What texts come to, worked out step by step: rules that fire where the slots are written out. -/
namespace Dn
open PySem PySem.Spec PyProof.Rows L2

section
variable {o : Option O} {en : En}
theorem x_seq {f g : En → Out Fl} : seqD f g (o :: en) = (f (o :: en)).bind fun fl en => match fl with | .nx => g en | fl => .ok fl en := rfl
theorem x_if {c : En → Out Bool} {f g : En → Out Fl} : ifD c f g (o :: en) = (c (o :: en)).bind fun k en => if k = true then f en else g en := rfl
theorem x_set {i : Nat} {f : En → Out D} : setD i f (o :: en) = (f (o :: en)).bind fun d en => .ok .nx (en.set i (some (.val d))) := rfl
theorem x_setO {i : Nat} {f : En → Out O} : setO i f (o :: en) = (f (o :: en)).bind fun d en => .ok .nx (en.set i (some d)) := rfl
theorem x_ret {f : En → Out O} : retF f (o :: en) = (f (o :: en)).bind fun o en => .ok (.rt o) en := rfl
theorem x_for {asg : D → En → Option En} {fi : En → Out (List D)} {g : En → Out Fl} : forS asg fi g (o :: en) = (fi (o :: en)).bind fun ds en => forD asg g ds en := rfl
theorem x_nx : nxD (o :: en) = .ok .nx (o :: en) := rfl
theorem x_bk : bkD (o :: en) = .ok .bk (o :: en) := rfl
theorem x_ct : ctD (o :: en) = .ok .ct (o :: en) := rfl
theorem x_drop {f : En → Out D} : dropD f (o :: en) = (f (o :: en)).bind fun _ en => .ok .nx en := rfl
theorem x_ex {C : Addr} : exD C (o :: en) = .ex C none (o :: en) := rfl
theorem x_c {d : D} : cD d (o :: en) = .ok d (o :: en) := rfl
theorem x_view {f : En → Out O} : viewD f (o :: en) = (f (o :: en)).bind fun o en => .ok (view o) en := rfl
theorem x_val {f : En → Out D} : valO f (o :: en) = (f (o :: en)).bind fun d en => .ok (.val d) en := rfl
theorem x_tA {f : En → Out D} : tA f (o :: en) = (f (o :: en)).bind fun d en => .ok (.t d) en := rfl
theorem x_nilA : nilA (o :: en) = .ok [] (o :: en) := rfl
theorem x_consA {f : En → Out AR} {g : En → Out (List AR)} : consA f g (o :: en) = (f (o :: en)).bind fun a en => (g en).bind fun as en => .ok (a :: as) en := rfl
theorem x_tst {f : En → Out D} : tstD f (o :: en) = (f (o :: en)).bind boolD := rfl
theorem x_bool {b : Bool} : boolD (.bl b) (o :: en) = .ok b (o :: en) := rfl
theorem x_notT {f : En → Out Bool} : notT f (o :: en) = (f (o :: en)).bind fun b en => .ok (!b) en := rfl
theorem x_notV {f : En → Out D} : notV f (o :: en) = (f (o :: en)).bind fun d en => match d with | .bl b => .ok (.bl (!b)) en | _ => .bad := rfl
theorem x_andT {f g : En → Out Bool} : andT f g (o :: en) = (f (o :: en)).bind fun b en => if b = true then g en else .ok false en := rfl
theorem x_orT {f g : En → Out Bool} : orT f g (o :: en) = (f (o :: en)).bind fun b en => if b = true then .ok true en else g en := rfl
theorem x_andV {f g : En → Out D} : andV f g (o :: en) = (f (o :: en)).bind fun d en => match d with | .bl true => g en | .bl false => .ok (.bl false) en | _ => .bad := rfl
theorem x_orV {f g : En → Out D} : orV f g (o :: en) = (f (o :: en)).bind fun d en => match d with | .bl false => g en | .bl true => .ok (.bl true) en | _ => .bad := rfl
theorem x_ifV {c : En → Out Bool} {f g : En → Out D} : ifV c f g (o :: en) = (c (o :: en)).bind fun k en => if k = true then f en else g en := rfl
theorem x_slotA {i : Nat} : slotA i (o :: en) = match (o :: en)[i]? with | some (some _) => .ok (.s i) (o :: en) | _ => .bad := rfl
theorem x_slotD {i : Nat} : slotD i (o :: en) = match (o :: en)[i]? with | some (some (.val d)) => .ok d (o :: en) | _ => .bad := rfl
theorem x_setl {i : Nat} : setl i (o :: en) = match (o :: en)[i]? with | some (some (.fl d)) => .ok d ((o :: en).set i (some (.val d))) | some (some (.val d)) => .ok d (o :: en) | _ => .bad := rfl
theorem x_vt {d : D} {en : En} : viewA en (.t d) = some d := rfl
theorem x_vs {i : Nat} : viewA (o :: en) (.s i) = match (o :: en)[i]? with | some (some o) => some (view o) | _ => none := rfl
theorem x_ft {d : D} {en : En} : frzA en (.t d) = some d := rfl
theorem x_fs {i : Nat} : frzA (o :: en) (.s i) = match (o :: en)[i]? with | some (some (.val d)) => some d | _ => none := rfl
theorem x_at {d : D} {en : En} : arO en (.t d) = some (.val d) := rfl
theorem x_as {i : Nat} : arO (o :: en) (.s i) = match (o :: en)[i]? with | some (some o) => some o | _ => none := rfl
theorem x_op1 {g : D → Option D} {f : En → Out AR} : op1 g f (o :: en) = (f (o :: en)).bind fun a en => liftO ((viewA en a).bind g) en := rfl
theorem x_op2 {g : D → D → Option D} {f h : En → Out AR} : op2 g f h (o :: en) = (f (o :: en)).bind fun a en => (h en).bind fun b en => liftO ((viewA en a).bind fun x => (viewA en b).bind fun y => g x y) en := rfl
theorem x_opN {g : List D → Option D} {f : En → Out (List AR)} : opN g f (o :: en) = (f (o :: en)).bind fun as en => liftO ((viewAs en as).bind g) en := rfl
theorem x_opNF {g : List D → Option D} {f : En → Out (List AR)} : opNF g f (o :: en) = (f (o :: en)).bind fun as en => liftO (((viewAs en as).bind g).map .fl) en := rfl
theorem x_lift {α : Type} {c : α} {en : En} : liftO (some c) en = .ok c en := rfl
theorem x_lift0 {α : Type} {en : En} : liftO (none : Option α) en = .bad := rfl
theorem x_lst {f : En → Out (List AR)} : lstF f (o :: en) = (f (o :: en)).bind fun as en => match frzAs en as with | some ds => if ds.length ≤ 1000 then .ok (.fl (.lst ds)) en else .bad | none => .bad := rfl
theorem x_tup {f : En → Out (List AR)} : tupF f (o :: en) = (f (o :: en)).bind fun as en => match frzAs en as with | some ds => if ds.length ≤ 1000 then .ok (.tup ds) en else .bad | none => .bad := rfl
theorem x_setI {j : Nat} {f : En → Out D} {g : En → Out AR} : setI j f g (o :: en) = match lstAt (o :: en) j with | none => .bad | some _ => setiD j f g (o :: en) := rfl
theorem x_seti {j : Nat} {f : En → Out D} {g : En → Out AR} : setiD j f g (o :: en) = (f (o :: en)).bind fun d en => (g en).bind fun ar en => match lstAt en j with
    | none => .bad
    | some ds => match intOf (viewA en ar) with
      | none => .bad
      | some k => match ixN ds.length k with
        | none => .bad
        | some m => .ok .nx (en.set j (some (.fl (.lst (ds.set m d))))) := rfl
theorem x_lstAt {j : Nat} : lstAt (o :: en) j = match (o :: en)[j]? with | some (some (.fl (.lst ds))) => some ds | _ => none := rfl
theorem x_flAt {j : Nat} : flAt (o :: en) j = match (o :: en)[j]? with | some (some (.fl d)) => some d | _ => none := rfl
theorem x_obAt {C : Addr} {j : Nat} : obAt C (o :: en) j = match (o :: en)[j]? with | some (some (.fl (.ob C' ns ds))) => if C' = C then some (ns, ds) else none | _ => none := rfl
theorem x_app {j : Nat} {f : En → Out D} : appD j f (o :: en) = match lstAt (o :: en) j with
  | none => .bad
  | some _ => (f (o :: en)).bind fun d en => match lstAt en j with
    | none => .bad
    | some ds => if ds.length < 16777216 then .ok .nx (en.set j (some (.fl (.lst (ds ++ [d]))))) else .bad := rfl
theorem x_dput {j : Nat} {f : En → Out D} {g : En → Out AR} : dputD j f g (o :: en) = match flAt (o :: en) j with
  | none => .bad
  | some _ => (f (o :: en)).bind fun d en => (g en).bind fun ar en => dputE j d en (flAt en j) (viewA en ar) := rfl
theorem x_dputE {j : Nat} {d dd k : D} {en : En} : dputE j d en (some dd) (some k) = match putG dd k d with
    | some dd' => .ok .nx (en.set j (some (.fl dd')))
    | none => .bad := rfl
theorem x_setf {C : Addr} {j : Nat} {f : Str} {g : En → Out D} : setfD C j f g (o :: en) = (g (o :: en)).bind fun d en => match obAt C en j with
  | none => .bad
  | some (ns, ds) => if ns.length < 900 then .ok .nx (en.set j (some (.fl (.ob C (putN f d ns ds).1 (putN f d ns ds).2)))) else .bad := rfl
theorem x_asgS {asg : D → En → Option En} {f : En → Out D} : asgS asg f (o :: en) = (f (o :: en)).bind fun d en => match asg d en with | none => .bad | some en' => .ok .nx en' := rfl
theorem x_asgN {i : Nat} {d : D} : asgN i d (o :: en) = some ((o :: en).set i (some (.val d))) := rfl
theorem x_asgC {a : D → En → Option En} {r : List D → En → Option En} {d : D} {ds : List D} : asgCons a r (d :: ds) (o :: en) = (a d (o :: en)).bind (r ds) := rfl
theorem x_asg0 {en : En} : asgNil [] en = some en := rfl
theorem x_asgT {m : Nat} {r : List D → En → Option En} {ds : List D} : asgT m r (.tup ds) (o :: en) = if ds.length = m then r ds (o :: en) else none := rfl
theorem x_call {F : Fn} {f : En → Out (List AR)} : callD F f (o :: en) = (f (o :: en)).bind fun as en => match arOs en as with
  | none => .bad
  | some os => if lent (as.map (arL en)) = true then match F os with
    | .ok r ps => .ok r (wb en (as.map (arL en)) ps)
    | .ex C fs ps => .ex C fs (wb en (as.map (arL en)) ps)
    | .bad => .bad
    else .bad := rfl
theorem x_make {C : Addr} {F : Fn} {f : En → Out (List AR)} : makeD C F f (o :: en) = (f (o :: en)).bind fun as en => match arOs en as with
  | none => .bad
  | some os => if lent (as.map (arL en)) = true then match F (.fl (.ob C [] []) :: os) with
    | .ok (.val .non) (some o :: ps) => .ok o (wb en (as.map (arL en)) ps)
    | .ex D fs (_ :: ps) => .ex D fs (wb en (as.map (arL en)) ps)
    | _ => .bad
    else .bad := rfl
theorem x_walkA {g : List D → En → Out (List D)} {f : En → Out (List AR)} : walkA g f (o :: en) = (f (o :: en)).bind fun as en => match frzAs en as with | some ds => g ds en | none => .bad := rfl
theorem x_walkI {f : En → Out D} : walkI f (o :: en) = (f (o :: en)).bind anyItems := rfl
theorem x_iL {ds : List D} {en : En} : anyItems (.lst ds) en = .ok ds en := rfl
theorem x_iT {ds : List D} {en : En} : anyItems (.tup ds) en = .ok ds en := rfl
theorem x_iS {x : Str} {en : En} : anyItems (.str x) en = .ok (signsD x) en := rfl
theorem x_rng {g : List D → En → Out (List D)} {f : En → Out (List AR)} : rngD g f (o :: en) = (f (o :: en)).bind fun as en => match viewAs en as with | some ds => g ds en | none => .bad := rfl
theorem x_lc {it : En → Out (List D)} {asg : D → En → Option En} {tt : En → Out Bool} {f : En → Out D} {vs : List Nat} : lcF it asg tt f vs (o :: en) = (it (o :: en)).bind fun ds en => (compD asg tt f vs ds [] en).bind fun acc en => .ok (.fl (.lst acc)) (wipeE en vs) := rfl
theorem x_truE {f : En → Out AR} : truE f (o :: en) = (f (o :: en)).bind fun a en => match (viewA en a).bind truD with | some k => .ok k en | none => .bad := rfl
theorem x_yes : yesD (o :: en) = .ok true (o :: en) := rfl
theorem x_try {g : En → Out Fl} {cs : List Clause} : tryD g cs (o :: en) = match g (o :: en) with | .ex C fs en' => hdl cs C fs en' | q => q := rfl
theorem x_chain {g g' : D → D → Option D} {f k h : En → Out AR} : chainD g g' f k h (o :: en) = (f (o :: en)).bind fun a en => (k en).bind fun b en => chainK g' h b en ((viewA en a).bind fun x => (viewA en b).bind fun y => g x y) := rfl
theorem x_chT {g' : D → D → Option D} {h : En → Out AR} {b : AR} : chainK g' h b (o :: en) (some (.bl true)) = (h (o :: en)).bind fun c en => liftO ((viewA en b).bind fun y => (viewA en c).bind fun z => g' y z) en := rfl
theorem x_chF {g' : D → D → Option D} {h : En → Out AR} {b : AR} : chainK g' h b (o :: en) (some (.bl false)) = .ok (.bl false) (o :: en) := rfl
theorem x_sl {g : D → Option Int → Option Int → Option D} {f : En → Out AR} {l u : En → Out (Option Int)} : slG g f l u (o :: en) = (f (o :: en)).bind fun a en => (l en).bind fun lo en => (u en).bind fun hi en => liftO ((viewA en a).bind fun d => g d lo hi) en := rfl
theorem x_noP : noP (o :: en) = .ok none (o :: en) := rfl
theorem x_someP {f : En → Out AR} : someP f (o :: en) = (f (o :: en)).bind fun a en => partA en a := rfl
theorem x_part {a : AR} : partA (o :: en) a = match viewA (o :: en) a with | some (.int i) => .ok (some i) (o :: en) | _ => .bad := rfl
theorem x_rev {f : En → Out AR} : revF f (o :: en) = (f (o :: en)).bind fun a en => liftO (((viewA en a).bind revG).map .fl) en := rfl
theorem x_get1 {f h : En → Out AR} : get1D f h (o :: en) = (f (o :: en)).bind fun a en => if isDctO (viewA en a) = true then (h en).bind fun b en => liftO ((viewA en a).bind fun x => (viewA en b).bind fun y => (getG x y).map (·.getD .non)) en else .bad := rfl
theorem x_get2 {f h k : En → Out AR} : get2D f h k (o :: en) = (f (o :: en)).bind fun a en => if isDctO (viewA en a) = true then (h en).bind fun b en => (k en).bind fun c en => liftO ((viewA en a).bind fun x => (viewA en b).bind fun y => (frzA en c).bind fun z => (getG x y).map (·.getD z)) en else .bad := rfl
theorem x_m1 {g : D → D → Option D} {f h : En → Out AR} : m1D g f h (o :: en) = (f (o :: en)).bind fun a en => if isStr (viewA en a) = true then (h en).bind fun b en => liftO ((viewA en a).bind fun x => (viewA en b).bind fun y => g x y) en else .bad := rfl
theorem x_raise1 {C : Addr} {f : Str} {g : En → Out (List AR)} : raise1D C f g (o :: en) = (g (o :: en)).bind fun as en => match frzAs en as with | some [d] => .ex C (some ([f], [d])) en | _ => .bad := rfl
theorem x_disp1 {f g : En → Out D} : disp1D f g (o :: en) = (f (o :: en)).bind fun d en => (g en).bind fun y en => disp1K d y en := rfl
theorem x_dc {d0 : D} {it : En → Out (List D)} {asg : D → En → Option En} {tt : En → Out Bool} {fk f : En → Out D} {vs : List Nat} : dcF d0 it asg tt fk f vs (o :: en) = (it (o :: en)).bind fun ds en => (dcompD asg tt fk f vs ds d0 en).bind fun acc en => .ok (.fl acc) (wipeE en vs) := rfl
theorem x_forC {asg : D → En → Option En} {g : En → Out Fl} {d : D} {ds : List D} : forD asg g (d :: ds) (o :: en) = match asg d (o :: en) with
    | none => .bad
    | some en1 => (g en1).bind fun fl en => match fl with
      | .nx => forD asg g ds en
      | .ct => forD asg g ds en
      | .bk => .ok .nx en
      | .rt o => .ok (.rt o) en := rfl
theorem x_forN {asg : D → En → Option En} {g : En → Out Fl} {en : En} : forD asg g [] en = .ok .nx en := rfl
/-- a def's end -/
def fnK (M : List Bool) : Out Fl → FO
  | .ok (.rt o) en => .ok o (mask M en)
  | .ok .nx en => .ok (.val .non) (mask M en)
  | .ex C fs en => .ex C fs (mask M en)
  | _ => .bad
theorem x_fn {B : En → Out Fl} {n : Nat} {M : List Bool} {as : List O} (h : as.length = M.length) : fnD B n M as = fnK M (B (as.map some ++ List.replicate (n - as.length) none)) := by
  unfold fnD
  rw [if_pos h]
  unfold fnK
  rfl
theorem x_K1 {M : List Bool} {q : O} {en : En} : fnK M (.ok (.rt q) en) = .ok q (mask M en) := rfl
theorem x_K2 {M : List Bool} {en : En} : fnK M (.ok .nx en) = .ok (.val .non) (mask M en) := rfl
theorem x_K3 {M : List Bool} {C : Addr} {fs : Xf} {en : En} : fnK M (.ex C fs en) = .ex C fs (mask M en) := rfl
theorem x_mask0 {en : En} : mask [] en = [] := by cases en <;> rfl
theorem x_maskT {M : List Bool} : mask (true :: M) (o :: en) = o :: mask M en := rfl
theorem x_maskF {M : List Bool} : mask (false :: M) (o :: en) = none :: mask M en := rfl
/-- places in lists written out -/
theorem x_ixL {xs : List D} {i : Int} : ixG (.lst xs) (.int i) = atI xs i := rfl
theorem x_ixT {xs : List D} {i : Int} : ixG (.tup xs) (.int i) = atI xs i := rfl
theorem x_at0 {α : Type} {xs : List α} {i : Nat} {x : α} (h : xs[i]? = some x) : atI xs (i : Int) = some x := by
  unfold atI ixN
  have l := (List.getElem?_eq_some_iff.mp h).1
  rw [if_pos (by omega), if_pos (by omega)]
  simpa using h
theorem x_atI {α : Type} {xs : List α} {i : Int} (h0 : 0 ≤ i) : atI xs i = xs[i.toNat]? := by
  unfold atI ixN
  rw [if_pos h0]
  by_cases h : i < xs.length
  · rw [if_pos h]; rfl
  · rw [if_neg h, List.getElem?_eq_none (by omega)]; rfl
theorem x_atN {α : Type} {xs : List α} : atI xs (-1) = xs.getLast? := by
  unfold atI ixN
  rw [if_neg (by omega)]
  cases xs with
  | nil => rfl
  | cons x r =>
    rw [if_pos (by simp; omega), List.getLast?_eq_getElem?]
    simp only [Option.bind_some, List.length_cons]
    congr 1
    omega
theorem g_addI {i j : Int} : addG (.int i) (.int j) = some (.int (i + j)) := rfl
theorem g_addS {x y : Str} : addG (.str x) (.str y) = if x.length + y.length ≤ 16777216 then some (.str (x ++ y)) else none := rfl
theorem g_addL {x y : List D} : addG (.lst x) (.lst y) = if x.length + y.length ≤ 16777216 then some (.lst (x ++ y)) else none := rfl
theorem g_addT {x y : List D} : addG (.tup x) (.tup y) = if x.length + y.length ≤ 16777216 then some (.tup (x ++ y)) else none := rfl
theorem g_sub {i j : Int} : subI (.int i) (.int j) = some (.int (i - j)) := rfl
theorem g_mul {i j : Int} (h : (-(2 ^ 64) < i ∧ i < 2 ^ 64) ∨ (-(2 ^ 64) < j ∧ j < 2 ^ 64)) : mulI (.int i) (.int j) = some (.int (i * j)) := if_pos h
theorem g_mulR {i j : Int} (h0 : -1000000000000 < j) (h1 : j < 1000000000000) : mulI (.int i) (.int j) = some (.int (i * j)) := if_pos (.inr ⟨by omega, by omega⟩)
theorem g_mulL {i j : Int} (h0 : -1000000000000 < i) (h1 : i < 1000000000000) : mulI (.int i) (.int j) = some (.int (i * j)) := if_pos (.inl ⟨by omega, by omega⟩)
theorem g_div {i j : Int} (h0 : 0 < j) (h1 : j < 18446744073709551616) : divI (.int i) (.int j) = some (.int (i / j)) := if_pos ⟨h0, h1⟩
theorem g_mod {i j : Int} (h0 : 0 < j) : modI (.int i) (.int j) = some (.int (i % j)) := if_pos h0
theorem g_pow {i j : Int} (h : 0 ≤ j ∧ j ≤ 1000000 ∧ i.natAbs < 2 ^ 64) : powI (.int i) (.int j) = some (.int (i ^ j.toNat)) := if_pos h
theorem g_pow18 : powI (.int 10) (.int 18) = some (.int 1000000000000000000) := rfl
theorem g_pow20 : powI (.int 10) (.int 20) = some (.int 100000000000000000000) := rfl
theorem g_neg {i : Int} : negI (.int i) = some (.int (-i)) := rfl
theorem g_lt {i j : Int} : ltI (.int i) (.int j) = some (.bl (decide (i < j))) := rfl
theorem g_le {i j : Int} : leI (.int i) (.int j) = some (.bl (decide (i ≤ j))) := rfl
theorem g_gt {i j : Int} : gtI (.int i) (.int j) = some (.bl (decide (j < i))) := rfl
theorem g_ge {i j : Int} : geI (.int i) (.int j) = some (.bl (decide (j ≤ i))) := rfl
theorem g_eqI {i j : Int} : eqA (.int i) (.int j) = some (.bl (decide (i = j))) := rfl
theorem g_eqS {i j : Str} : eqA (.str i) (.str j) = some (.bl (decide (i = j))) := rfl
theorem g_eqB {i j : Bool} : eqA (.bl i) (.bl j) = some (.bl (decide (i = j))) := rfl
theorem g_neI {i j : Int} : neA (.int i) (.int j) = some (.bl (!decide (i = j))) := rfl
theorem g_neS {i j : Str} : neA (.str i) (.str j) = some (.bl (!decide (i = j))) := rfl
theorem g_isN {d : D} : isA d .non = some (.bl (isNon d)) := rfl
theorem g_isB {d : D} {b : Bool} : isA d (.bl b) = some (.bl (isBl b d)) := rfl
theorem g_notN {d : D} : notA d .non = some (.bl (!isNon d)) := rfl
theorem g_lenL {xs : List D} : lenS (.lst xs) = some (.int xs.length) := rfl
theorem g_lenT {xs : List D} : lenS (.tup xs) = some (.int xs.length) := rfl
theorem g_lenS {x : Str} : lenS (.str x) = some (.int x.length) := rfl
theorem g_lenC {xs : List Int} : lenS (.sc xs) = some (.int xs.length) := rfl
theorem g_intI {i : Int} : intS (.int i) = some (.int i) := rfl
theorem g_intB {b : Bool} : intS (.bl b) = some (.int (if b then 1 else 0)) := rfl
theorem g_tupL {xs : List D} : tupS (.lst xs) = some (.tup xs) := rfl
theorem g_tupT {xs : List D} : tupS (.tup xs) = some (.tup xs) := rfl
theorem g_lstC {xs : List Int} : lstS (.sc xs) = some (.lst (xs.map .int)) := rfl
theorem g_lstT {xs : List D} : lstS (.tup xs) = some (.lst xs) := rfl
theorem g_lstL {xs : List D} : lstS (.lst xs) = some (.lst xs) := rfl
theorem g_on1 {g : D → Option D} {d : D} : on1 g [d] = g d := rfl
theorem g_max2 {i j : Int} : max2 [.int i, .int j] = some (.int (if j > i then j else i)) := rfl
theorem g_abs {i : Int} : absS (.int i) = some (.int (if i < 0 then -i else i)) := rfl
theorem g_truB {b : Bool} : truD (.bl b) = some b := rfl
theorem g_truL {xs : List D} : truD (.lst xs) = some (!xs.isEmpty) := rfl
theorem g_isi {tb : List (TK × Bool)} {d : D} : isiG tb d = (tyK d).bind fun t => (tb.lookup t).map .bl := rfl
theorem x_ixN {n : Nat} {i : Int} (h0 : 0 ≤ i) (h1 : i < n) : ixN n i = some i.toNat := by
  unfold ixN
  rw [if_pos h0, if_pos h1]
theorem x_intOf {i : Int} : intOf (some (.int i)) = some i := rfl
theorem x_viewV {d : D} : view (.val d) = d := rfl
theorem x_viewF {d : D} : view (.fl d) = d := rfl
theorem x_lent0 : lent [] = true := rfl
theorem x_lentN {r : List (Option Nat)} : lent (none :: r) = lent r := rfl
theorem x_lentS {i : Nat} {r : List (Option Nat)} : lent (some i :: r) = ((!r.contains (some i)) && lent r) := rfl
theorem x_arS0 {i : Nat} : arL (o :: en) (.s i) = match (o :: en)[i]? with | some (some (.val _)) => none | _ => some i := by
  show arS (match (o :: en)[i]? with | some (some (.val d)) => AR.t d | _ => AR.s i) = _
  generalize (o :: en)[i]? = q
  cases q with
  | none => rfl
  | some q =>
    cases q with
    | none => rfl
    | some q => cases q <;> rfl
theorem x_arT0 {d : D} {en : En} : arL en (.t d) = none := rfl
theorem x_wbS {en : En} {i : Nat} {ss : List (Option Nat)} {p : Option O} {ps : En} : wb en (some i :: ss) (p :: ps) = (wb en ss ps).set i p := rfl
theorem x_wbN {en : En} {ss : List (Option Nat)} {p : Option O} {ps : En} : wb en (none :: ss) (p :: ps) = wb en ss ps := rfl
theorem x_wb0 {en ps : En} : wb en [] ps = en := by cases ps <;> rfl
theorem x_vA0 {en : En} : viewAs en [] = some [] := rfl
theorem x_fA0 {en : En} : frzAs en [] = some [] := rfl
theorem x_aA0 {en : En} : arOs en [] = some [] := rfl
theorem x_vA {en : En} {a : AR} {as : List AR} : viewAs en (a :: as) = match viewA en a, viewAs en as with | some d, some ds => some (d :: ds) | _, _ => none := rfl
theorem x_fA {en : En} {a : AR} {as : List AR} : frzAs en (a :: as) = match frzA en a, frzAs en as with | some d, some ds => some (d :: ds) | _, _ => none := rfl
theorem x_aA {en : En} {a : AR} {as : List AR} : arOs en (a :: as) = match arO en a, arOs en as with | some d, some ds => some (d :: ds) | _, _ => none := rfl
end
end Dn
/-! Loops and comprehensions worked out by what one turn does. -/
namespace Dn
open PySem PySem.Spec PyProof.Rows L2

theorem forD_inv {asg : D → En → Option En} {g : En → Out Fl} : ∀ (ds : List D) (Iv : Nat → En → Prop) (en : En), Iv 0 en →
    (∀ i en d, ds[i]? = some d → Iv i en → ∃ en1 en2, asg d en = some en1 ∧ (g en1 = .ok .nx en2 ∨ g en1 = .ok .ct en2) ∧ Iv (i + 1) en2) → ∃ en', forD asg g ds en = .ok .nx en' ∧ Iv ds.length en'
  | [], Iv, en, h0, _ => ⟨en, rfl, h0⟩
  | d :: ds, Iv, en, h0, st => by
    obtain ⟨en1, en2, e1, e2, h1⟩ := st 0 en d rfl h0
    obtain ⟨en', e3, h2⟩ := forD_inv ds (fun i => Iv (i + 1)) en2 h1 fun i en d' hd hi => st (i + 1) en d' (by simpa using hd) hi
    refine ⟨en', ?_, h2⟩
    unfold forD
    rw [e1]
    rcases e2 with e2 | e2 <;> (simp only [e2, bind_ok]; exact e3)
theorem compD_map {asg : D → En → Option En} {tt : En → Out Bool} {f : En → Out D} {vs : List Nat} {E0 : En} {res : D → Option D} : ∀ (ds acc : List D) (en : En), wipeE en vs = E0 →
    (∀ d ∈ ds, (res d = none → ∃ en1 en2, asg d E0 = some en1 ∧ tt en1 = .ok false en2 ∧ wipeE en2 vs = E0) ∧ ∀ y, res d = some y → ∃ en1 en2 en3, asg d E0 = some en1 ∧ tt en1 = .ok true en2 ∧ f en2 = .ok y en3 ∧ wipeE en3 vs = E0) →
    ∃ en', compD asg tt f vs ds acc en = .ok (acc ++ ds.filterMap res) en' ∧ wipeE en' vs = E0
  | [], acc, en, h, _ => ⟨en, by simp [compD], h⟩
  | d :: ds, acc, en, h, st => by
    have s := st d List.mem_cons_self
    have rest := fun d hd => st d (List.mem_cons_of_mem _ hd)
    cases q : res d with
    | none =>
      obtain ⟨en1, en2, e1, e2, e3⟩ := s.1 q
      obtain ⟨en', e4, e5⟩ := compD_map ds acc en2 e3 rest
      refine ⟨en', ?_, e5⟩
      simp only [compD, h, e1, e2, e4, List.filterMap_cons, q]
    | some y =>
      obtain ⟨en1, en2, en3, e1, e2, e3, e4⟩ := s.2 y q
      obtain ⟨en', e5, e6⟩ := compD_map ds (acc ++ [y]) en3 e4 rest
      refine ⟨en', ?_, e6⟩
      simp only [compD, h, e1, e2, e3, e5, List.filterMap_cons, q, List.append_assoc, List.cons_append, List.nil_append]
theorem compB_map {asg : D → En → Option En} {tt : En → Out Bool} {f : En → Out D} {vs : List Nat} {E0 : En} {res : D → Option D} : ∀ (ds acc : List D) (en : En), wipeE en vs = E0 → acc.length + ds.length ≤ 16777216 →
    (∀ d ∈ ds, (res d = none → ∃ en1 en2, asg d E0 = some en1 ∧ tt en1 = .ok false en2 ∧ wipeE en2 vs = E0) ∧ ∀ y, res d = some y → ∃ en1 en2 en3, asg d E0 = some en1 ∧ tt en1 = .ok true en2 ∧ f en2 = .ok y en3 ∧ wipeE en3 vs = E0) →
    ∃ en', compB asg tt f vs ds acc en = .ok (acc ++ ds.filterMap res) en' ∧ wipeE en' vs = E0
  | [], acc, en, h, _, _ => ⟨en, by simp [compB], h⟩
  | d :: ds, acc, en, h, hl, st => by
    have s := st d List.mem_cons_self
    have rest := fun d hd => st d (List.mem_cons_of_mem _ hd)
    simp only [List.length_cons] at hl
    cases q : res d with
    | none =>
      obtain ⟨en1, en2, e1, e2, e3⟩ := s.1 q
      obtain ⟨en', e4, e5⟩ := compB_map ds acc en2 e3 (by omega) rest
      refine ⟨en', ?_, e5⟩
      simp only [compB, h, e1, e2, e4, List.filterMap_cons, q]
    | some y =>
      obtain ⟨en1, en2, en3, e1, e2, e3, e4⟩ := s.2 y q
      obtain ⟨en', e5, e6⟩ := compB_map ds (acc ++ [y]) en3 e4 (by simp; omega) rest
      refine ⟨en', ?_, e6⟩
      have lt : acc.length < 16777216 := by omega
      simp only [compB, h, e1, e2, e3, if_pos lt, e5, List.filterMap_cons, q, List.append_assoc, List.cons_append, List.nil_append]
/-- two fors: for each item of the outer walk the inner one's items -/
theorem comp2_map {asg asg1 : D → En → Option En} {tt tt1 : En → Out Bool} {it1 : En → Out (List D)} {f : En → Out D} {vs vs1 : List Nat} {E0 : En} {inner : D → List D} : ∀ (ds acc : List D) (en : En), wipeE en vs = E0 → acc.length + (ds.flatMap inner).length ≤ 16777216 →
    (∀ d ∈ ds, ∀ acc : List D, acc.length + (inner d).length ≤ 16777216 → ∃ en1 en2 ds1 en3 en4, asg d E0 = some en1 ∧ tt en1 = .ok true en2 ∧ it1 en2 = .ok ds1 en3 ∧ compB asg1 tt1 f vs1 ds1 acc en3 = .ok (acc ++ inner d) en4 ∧ wipeE en4 vs = E0) →
    ∃ en', comp2D asg tt it1 asg1 tt1 f vs vs1 ds acc en = .ok (acc ++ ds.flatMap inner) en' ∧ wipeE en' vs = E0
  | [], acc, en, h, _, _ => ⟨en, by simp [comp2D], h⟩
  | d :: ds, acc, en, h, hl, st => by
    simp only [List.flatMap_cons, List.length_append] at hl
    obtain ⟨en1, en2, ds1, en3, en4, e1, e2, e3, e4, e5⟩ := st d List.mem_cons_self acc (by omega)
    obtain ⟨en', e6, e7⟩ := comp2_map ds (acc ++ inner d) en4 e5 (by rw [List.length_append]; omega) fun d hd => st d (List.mem_cons_of_mem _ hd)
    refine ⟨en', ?_, e7⟩
    simp only [comp2D, h, e1, e2, e3, e4, e6, List.flatMap_cons, List.append_assoc]
/-- a dict comprehension: acc changed item by item -/
theorem dcomp_fold {asg : D → En → Option En} {tt : En → Out Bool} {fk f : En → Out D} {vs : List Nat} {E0 : En} {upd : D → D → D} {Ok : List D → D → Prop} : ∀ (ds : List D) (acc : D) (en : En), wipeE en vs = E0 → Ok ds acc →
    (∀ d ds acc, Ok (d :: ds) acc → ∃ en1 en2 k en3 y en4, asg d E0 = some en1 ∧ tt en1 = .ok true en2 ∧ fk en2 = .ok k en3 ∧ f en3 = .ok y en4 ∧ wipeE en4 vs = E0 ∧ putG acc k y = some (upd acc d) ∧ Ok ds (upd acc d)) →
    ∃ en', dcompD asg tt fk f vs ds acc en = .ok (ds.foldl upd acc) en' ∧ wipeE en' vs = E0
  | [], acc, en, h, _, _ => ⟨en, by simp [dcompD], h⟩
  | d :: ds, acc, en, h, ok, st => by
    obtain ⟨en1, en2, k, en3, y, en4, e1, e2, e3, e4, e5, e6, ok'⟩ := st d ds acc ok
    obtain ⟨en', e7, e8⟩ := dcomp_fold ds (upd acc d) en4 e5 ok' st
    refine ⟨en', ?_, e8⟩
    simp only [dcompD, h, e1, e2, e3, e4, e6, e7, List.foldl_cons]
theorem mem_get {α : Type} {x : α} {l : List α} (h : x ∈ l) : ∃ i : Nat, l[i]? = some x := List.mem_iff_getElem?.mp h
theorem get_mem {α : Type} {x : α} {l : List α} {i : Nat} (h : l[i]? = some x) : x ∈ l := List.mem_iff_getElem?.mpr ⟨i, h⟩
theorem x_wipe0 {en : En} : wipeE en [] = en := rfl
theorem x_wipe {en : En} {v : Nat} {vs : List Nat} : wipeE en (v :: vs) = (wipeE en vs).set v none := rfl
theorem x_rng1 {j : Int} {en : En} (h : j ≤ 16777216) (h0 : 0 ≤ j) : rng1 [.int j] en = .ok (intsD 0 j) en := by
  unfold rng1 oneI
  simp only
  rw [if_pos ⟨h, by omega⟩]
theorem ints_get {j : Int} {i : Nat} {d : D} (h : (intsD 0 j)[i]? = some d) : d = .int (i : Nat) ∧ (i : Int) < j := by
  unfold intsD at h
  rw [List.getElem?_map] at h
  cases z : (List.range (j - 0).toNat)[i]? with
  | none => rw [z] at h; cases h
  | some m =>
    rw [z] at h
    have l := (List.getElem?_eq_some_iff.mp z).1
    have := (List.getElem?_eq_some_iff.mp z).2
    simp only [List.getElem_range] at this
    subst this
    simp only [List.length_range] at l
    cases h
    exact ⟨by simp, by omega⟩
end Dn
/-! Kinds asked, loops as folds, data that a law's own comparing goes through. -/
namespace Dn
open PySem PySem.Spec PyProof.Rows L2

/-- of a built-in kind -/
def pl : D → Bool
  | .non | .bl _ | .int _ | .str _ | .sc _ | .lst _ | .tup _ | .dK _ _ => true
  | _ => false
def isI : D → Bool
  | .int _ => true
  | _ => false
def isBo : D → Bool
  | .bl _ => true
  | _ => false
def isTu : D → Bool
  | .tup _ => true
  | _ => false
def isLs : D → Bool
  | .lst _ | .sc _ => true
  | _ => false
def isSt : D → Bool
  | .str _ => true
  | _ => false
theorem x_isDK {ks : List Key} {ds : List D} : isDctO (some (.dK ks ds)) = true := rfl
theorem x_isDT {ks : List (List Key)} {ds : List D} : isDctO (some (.dT ks ds)) = true := rfl
theorem tb_int : tbB "int" = [(.b "NoneType", false), (.b "bool", true), (.b "int", true), (.b "str", false), (.b "list", false), (.b "tuple", false), (.b "dict", false)] := by rfl
theorem tb_bool : tbB "bool" = [(.b "NoneType", false), (.b "bool", true), (.b "int", false), (.b "str", false), (.b "list", false), (.b "tuple", false), (.b "dict", false)] := by rfl
theorem tb_tuple : tbB "tuple" = [(.b "NoneType", false), (.b "bool", false), (.b "int", false), (.b "str", false), (.b "list", false), (.b "tuple", true), (.b "dict", false)] := by rfl
theorem tb_list : tbB "list" = [(.b "NoneType", false), (.b "bool", false), (.b "int", false), (.b "str", false), (.b "list", true), (.b "tuple", false), (.b "dict", false)] := by rfl
theorem tb_str : tbB "str" = [(.b "NoneType", false), (.b "bool", false), (.b "int", false), (.b "str", true), (.b "list", false), (.b "tuple", false), (.b "dict", false)] := by rfl
theorem isi_int {d : D} (h : pl d = true) : isiG (tbB "int") d = some (.bl (isI d || isBo d)) := by
  rw [tb_int]; cases d <;> first | rfl | cases h
theorem isi_bool {d : D} (h : pl d = true) : isiG (tbB "bool") d = some (.bl (isBo d)) := by
  rw [tb_bool]; cases d <;> first | rfl | cases h
theorem isi_tuple {d : D} (h : pl d = true) : isiG (tbB "tuple") d = some (.bl (isTu d)) := by
  rw [tb_tuple]; cases d <;> first | rfl | cases h
theorem isi_list {d : D} (h : pl d = true) : isiG (tbB "list") d = some (.bl (isLs d)) := by
  rw [tb_list]; cases d <;> first | rfl | cases h
theorem isi_str {d : D} (h : pl d = true) : isiG (tbB "str") d = some (.bl (isSt d)) := by
  rw [tb_str]; cases d <;> first | rfl | cases h
theorem isi_int_n : isiG (tbB "int") D.non = some (.bl false) := isi_int rfl
theorem isi_int_b {b : Bool} : isiG (tbB "int") (D.bl b) = some (.bl true) := isi_int rfl
theorem isi_int_i {i : Int} : isiG (tbB "int") (D.int i) = some (.bl true) := isi_int rfl
theorem isi_int_s {x : Str} : isiG (tbB "int") (D.str x) = some (.bl false) := isi_int rfl
theorem isi_int_c {ns : List Int} : isiG (tbB "int") (D.sc ns) = some (.bl false) := isi_int rfl
theorem isi_int_l {xs : List D} : isiG (tbB "int") (D.lst xs) = some (.bl false) := isi_int rfl
theorem isi_int_t {xs : List D} : isiG (tbB "int") (D.tup xs) = some (.bl false) := isi_int rfl
theorem isi_int_d {ks : List Key} {ds : List D} : isiG (tbB "int") (D.dK ks ds) = some (.bl false) := isi_int rfl
theorem isi_bool_n : isiG (tbB "bool") D.non = some (.bl false) := isi_bool rfl
theorem isi_bool_b {b : Bool} : isiG (tbB "bool") (D.bl b) = some (.bl true) := isi_bool rfl
theorem isi_bool_i {i : Int} : isiG (tbB "bool") (D.int i) = some (.bl false) := isi_bool rfl
theorem isi_bool_s {x : Str} : isiG (tbB "bool") (D.str x) = some (.bl false) := isi_bool rfl
theorem isi_bool_c {ns : List Int} : isiG (tbB "bool") (D.sc ns) = some (.bl false) := isi_bool rfl
theorem isi_bool_l {xs : List D} : isiG (tbB "bool") (D.lst xs) = some (.bl false) := isi_bool rfl
theorem isi_bool_t {xs : List D} : isiG (tbB "bool") (D.tup xs) = some (.bl false) := isi_bool rfl
theorem isi_bool_d {ks : List Key} {ds : List D} : isiG (tbB "bool") (D.dK ks ds) = some (.bl false) := isi_bool rfl
theorem isi_tuple_n : isiG (tbB "tuple") D.non = some (.bl false) := isi_tuple rfl
theorem isi_tuple_b {b : Bool} : isiG (tbB "tuple") (D.bl b) = some (.bl false) := isi_tuple rfl
theorem isi_tuple_i {i : Int} : isiG (tbB "tuple") (D.int i) = some (.bl false) := isi_tuple rfl
theorem isi_tuple_s {x : Str} : isiG (tbB "tuple") (D.str x) = some (.bl false) := isi_tuple rfl
theorem isi_tuple_c {ns : List Int} : isiG (tbB "tuple") (D.sc ns) = some (.bl false) := isi_tuple rfl
theorem isi_tuple_l {xs : List D} : isiG (tbB "tuple") (D.lst xs) = some (.bl false) := isi_tuple rfl
theorem isi_tuple_t {xs : List D} : isiG (tbB "tuple") (D.tup xs) = some (.bl true) := isi_tuple rfl
theorem isi_tuple_d {ks : List Key} {ds : List D} : isiG (tbB "tuple") (D.dK ks ds) = some (.bl false) := isi_tuple rfl
theorem isi_list_n : isiG (tbB "list") D.non = some (.bl false) := isi_list rfl
theorem isi_list_b {b : Bool} : isiG (tbB "list") (D.bl b) = some (.bl false) := isi_list rfl
theorem isi_list_i {i : Int} : isiG (tbB "list") (D.int i) = some (.bl false) := isi_list rfl
theorem isi_list_s {x : Str} : isiG (tbB "list") (D.str x) = some (.bl false) := isi_list rfl
theorem isi_list_c {ns : List Int} : isiG (tbB "list") (D.sc ns) = some (.bl true) := isi_list rfl
theorem isi_list_l {xs : List D} : isiG (tbB "list") (D.lst xs) = some (.bl true) := isi_list rfl
theorem isi_list_t {xs : List D} : isiG (tbB "list") (D.tup xs) = some (.bl false) := isi_list rfl
theorem isi_list_d {ks : List Key} {ds : List D} : isiG (tbB "list") (D.dK ks ds) = some (.bl false) := isi_list rfl
theorem isi_str_n : isiG (tbB "str") D.non = some (.bl false) := isi_str rfl
theorem isi_str_b {b : Bool} : isiG (tbB "str") (D.bl b) = some (.bl false) := isi_str rfl
theorem isi_str_i {i : Int} : isiG (tbB "str") (D.int i) = some (.bl false) := isi_str rfl
theorem isi_str_s {x : Str} : isiG (tbB "str") (D.str x) = some (.bl true) := isi_str rfl
theorem isi_str_c {ns : List Int} : isiG (tbB "str") (D.sc ns) = some (.bl false) := isi_str rfl
theorem isi_str_l {xs : List D} : isiG (tbB "str") (D.lst xs) = some (.bl false) := isi_str rfl
theorem isi_str_t {xs : List D} : isiG (tbB "str") (D.tup xs) = some (.bl false) := isi_str rfl
theorem isi_str_d {ks : List Key} {ds : List D} : isiG (tbB "str") (D.dK ks ds) = some (.bl false) := isi_str rfl
end Dn
local macro_rules | `(tactic| simp! [$ls,*]) => `(tactic| simp (config := { decide := true }) only [Dn.x_seq, Dn.x_if, Dn.x_set, Dn.x_setO, Dn.x_ret, Dn.x_for, Dn.x_nx, Dn.x_bk, Dn.x_ct, Dn.x_drop, Dn.x_ex, Dn.x_c, Dn.x_view, Dn.x_val, Dn.x_tA, Dn.x_nilA, Dn.x_consA, Dn.x_tst, Dn.x_bool, Dn.x_notT, Dn.x_notV, Dn.x_andT, Dn.x_orT, Dn.x_andV, Dn.x_orV, Dn.x_ifV, Dn.x_slotA, Dn.x_slotD, Dn.x_setl, Dn.x_vt, Dn.x_vs, Dn.x_ft, Dn.x_fs, Dn.x_at, Dn.x_as, Dn.x_op1, Dn.x_op2, Dn.x_opN, Dn.x_opNF, Dn.x_lift, Dn.x_lift0, Dn.x_lst, Dn.x_tup, Dn.x_setI, Dn.x_seti, Dn.x_lstAt, Dn.x_flAt, Dn.x_obAt, Dn.x_app, Dn.x_dput, Dn.x_dputE, Dn.x_setf, Dn.x_asgS, Dn.x_asgN, Dn.x_asgC, Dn.x_asg0, Dn.x_asgT, Dn.x_call, Dn.x_make, Dn.x_walkA, Dn.x_walkI, Dn.x_iL, Dn.x_iT, Dn.x_iS, Dn.x_rng, Dn.x_lc, Dn.x_truE, Dn.x_yes, Dn.x_try, Dn.x_chain, Dn.x_chT, Dn.x_chF, Dn.x_sl, Dn.x_noP, Dn.x_someP, Dn.x_part, Dn.x_rev, Dn.x_get1, Dn.x_get2, Dn.x_m1, Dn.x_raise1, Dn.x_disp1, Dn.x_dc, Dn.x_K1, Dn.x_K2, Dn.x_K3, Dn.x_mask0, Dn.x_maskT, Dn.x_maskF, Dn.x_ixL, Dn.x_ixT, Dn.x_atI, Dn.x_atN, Dn.bind_ok, Dn.bind_ex, Dn.bind_bad, Dn.g_addI, Dn.g_addS, Dn.g_addL, Dn.g_addT, Dn.g_sub, Dn.g_mul, Dn.g_mulR, Dn.g_mulL, Dn.g_div, Dn.g_mod, Dn.g_pow, Dn.g_pow18, Dn.g_pow20, Dn.g_neg, Dn.g_lt, Dn.g_le, Dn.g_gt, Dn.g_ge, Dn.g_eqI, Dn.g_eqS, Dn.g_eqB, Dn.g_neI, Dn.g_neS, Dn.g_isN, Dn.g_isB, Dn.g_notN, Dn.g_lenL, Dn.g_lenT, Dn.g_lenS, Dn.g_lenC, Dn.g_intI, Dn.g_intB, Dn.g_tupL, Dn.g_tupT, Dn.g_lstC, Dn.g_lstT, Dn.g_lstL, Dn.g_on1, Dn.g_max2, Dn.x_repL, Dn.g_repL, Dn.g_min2, Dn.g_addJ, Dn.x_tryX, Dn.g_abs, Dn.g_truB, Dn.g_truL, Dn.x_ixN, Dn.x_intOf, Dn.x_viewV, Dn.x_viewF, Dn.x_lent0, Dn.x_lentN, Dn.x_lentS, Dn.x_arS0, Dn.x_arT0, Dn.x_wbS, Dn.x_wbN, Dn.x_wb0, Dn.x_vA0, Dn.x_fA0, Dn.x_aA0, Dn.x_vA, Dn.x_fA, Dn.x_aA, Dn.isNon, Dn.isBl, Dn.isi_int_n, Dn.isi_int_b, Dn.isi_int_i, Dn.isi_int_s, Dn.isi_int_c, Dn.isi_int_l, Dn.isi_int_t, Dn.isi_int_d, Dn.isi_bool_n, Dn.isi_bool_b, Dn.isi_bool_i, Dn.isi_bool_s, Dn.isi_bool_c, Dn.isi_bool_l, Dn.isi_bool_t, Dn.isi_bool_d, Dn.isi_tuple_n, Dn.isi_tuple_b, Dn.isi_tuple_i, Dn.isi_tuple_s, Dn.isi_tuple_c, Dn.isi_tuple_l, Dn.isi_tuple_t, Dn.isi_tuple_d, Dn.isi_list_n, Dn.isi_list_b, Dn.isi_list_i, Dn.isi_list_s, Dn.isi_list_c, Dn.isi_list_l, Dn.isi_list_t, Dn.isi_list_d, Dn.isi_str_n, Dn.isi_str_b, Dn.isi_str_i, Dn.isi_str_s, Dn.isi_str_c, Dn.isi_str_l, Dn.isi_str_t, Dn.isi_str_d, eq_self, Dn.isI, Dn.isBo, Dn.isTu, Dn.isLs, Dn.isSt, Bool.or_true, Bool.or_false, Bool.true_or, Bool.false_or, Dn.x_isDK, Dn.x_isDT, Dn.isStr, Dn.notB, List.getElem?_cons_zero, List.getElem?_cons_succ, List.set_cons_zero, List.set_cons_succ, List.map_cons, List.map_nil, List.length_cons, List.length_nil, List.cons_append, List.nil_append, List.append_nil, List.replicate_succ, List.replicate_zero, Option.bind_some, Option.bind_none, Option.map_some, Option.map_none, Option.or_some, Option.some_or, Option.none_or, Bool.not_true, Bool.not_false, Bool.true_and, Bool.and_true, Bool.false_and, Bool.and_false, if_true, if_false, ite_true, ite_false, decide_true, decide_false, Bool.false_eq_true, reduceIte, Int.reduceToNat, Nat.reduceAdd, Nat.reduceSub, Int.reduceLE, Int.reduceLT, Int.reduceAdd, Int.reduceSub, Int.reduceNeg, Int.reduceMul, Int.reducePow, Nat.reduceLT, Nat.reduceLeDiff, Nat.reduceEqDiff, Int.reduceEq, Int.cast_ofNat_Int, Nat.zero_add, List.contains_nil, List.contains_cons, $ls,*])
/-! Folds, and comprehensions that keep all items. -/
namespace Dn
open PySem PySem.Spec PyProof.Rows L2
theorem forD_fold {α : Type} {asg : D → En → Option En} {g : En → Out Fl} {fi : α → D} {S : Type} {up : S → α → S} {Rel : S → En → Prop} : ∀ (bs : List α) (s : S) (en : En), Rel s en →
    (∀ b ∈ bs, ∀ s en, Rel s en → ∃ en1 en2, asg (fi b) en = some en1 ∧ (g en1 = .ok .nx en2 ∨ g en1 = .ok .ct en2) ∧ Rel (up s b) en2) → ∃ en', forD asg g (bs.map fi) en = .ok .nx en' ∧ Rel (bs.foldl up s) en'
  | [], s, en, h0, _ => ⟨en, rfl, h0⟩
  | b :: bs, s, en, h0, st => by
    obtain ⟨en1, en2, e1, e2, h1⟩ := st b List.mem_cons_self s en h0
    obtain ⟨en', e3, h2⟩ := forD_fold bs (up s b) en2 h1 fun c hc => st c (List.mem_cons_of_mem _ hc)
    refine ⟨en', ?_, h2⟩
    rw [List.map_cons, forD, e1]
    rcases e2 with e2 | e2 <;> (simp only [e2, bind_ok]; exact e3)
theorem comp_all {asg : D → En → Option En} {f : En → Out D} {vs : List Nat} {E0 : En} {res : D → D} (ds : List D) (en : En) (h : wipeE en vs = E0) (st : ∀ d ∈ ds, ∃ en1 en3, asg d E0 = some en1 ∧ en1 ≠ [] ∧ f en1 = .ok (res d) en3 ∧ wipeE en3 vs = E0) :
    ∃ en', compD asg yesD f vs ds [] en = .ok (ds.map res) en' ∧ wipeE en' vs = E0 := by
  obtain ⟨en', e, w⟩ := compD_map (asg := asg) (tt := yesD) (f := f) (vs := vs) (E0 := E0) (res := fun d => some (res d)) ds [] en h fun d hd => ⟨fun z => by (cases z), fun y z => by
    cases z
    obtain ⟨en1, en3, e1, ne, e2, e3⟩ := st d hd
    exact ⟨en1, en1, en3, e1, by cases en1 with | nil => exact absurd rfl ne | cons o en => rfl, e2, e3⟩⟩
  refine ⟨en', ?_, w⟩
  rw [e, List.nil_append]
  congr 1
  induction ds with
  | nil => rfl
  | cons d ds ih => simp
theorem all_bl {f : D → Bool} (ds : List D) : allS (.lst (ds.map fun d => .bl (f d))) = some (.bl (ds.all f)) := by
  have : (ds.map fun d => D.bl (f d)) = (ds.map f).map .bl := by simp
  unfold allS
  rw [this]
  simp only
  rw [boolsOf_map, Option.map_some, List.all_map]
  rfl
theorem any_bl {f : D → Bool} (ds : List D) : anyS (.lst (ds.map fun d => .bl (f d))) = some (.bl (ds.any f)) := by
  have : (ds.map fun d => D.bl (f d)) = (ds.map f).map .bl := by simp
  unfold anyS
  rw [this]
  simp only
  rw [boolsOf_map, Option.map_some, List.any_map]
  rfl
end Dn
namespace Dn
open PySem PySem.Spec PyProof.Rows L2
/-- plain data, less deep than n -/
def pd : Nat → D → Bool
  | 0, _ => false
  | n + 1, d => match d with
    | .non | .bl _ | .int _ | .str _ => true
    | .lst ds | .tup ds => ds.all (pd n)
    | _ => false
theorem x_zipT {xs ys : List D} {en : En} : zipItems [.tup xs, .tup ys] en = .ok (zipD xs ys) en := rfl
theorem x_zipL {xs ys : List D} {en : En} : zipItems [.lst xs, .lst ys] en = .ok (zipD xs ys) en := rfl
theorem g_neB {i j : Bool} : neA (.bl i) (.bl j) = some (.bl (!decide (i = j))) := rfl
end Dn
namespace Dn
open PySem PySem.Spec PyProof.Rows L2
theorem cut_to {xs : List D} {n : Int} (h0 : 0 ≤ n) (h1 : n ≤ xs.length) : cutD xs none (some n) = xs.take n.toNat := by
  unfold cutD
  have e1 : HT.sIx xs.length 0 none = 0 := rfl
  have e2 : HT.sIx xs.length xs.length (some n) = n.toNat := by
    unfold HT.sIx
    simp only
    split <;> omega
  rw [e1, e2, List.drop_zero, Nat.sub_zero]
theorem cut_from {xs : List D} {n : Int} (h0 : 0 ≤ n) (h1 : n ≤ xs.length) : cutD xs (some n) none = xs.drop n.toNat := by
  unfold cutD
  have e1 : HT.sIx xs.length xs.length none = xs.length := rfl
  have e2 : HT.sIx xs.length 0 (some n) = n.toNat := by
    unfold HT.sIx
    simp only
    split <;> omega
  rw [e1, e2]
  exact List.take_of_length_le (by rw [List.length_drop]; omega)
end Dn
namespace Dn
open PySem PySem.Spec PyProof.Rows L2
/-- of a built-in kind, and so are a tuple's items -/
def pnB (d : D) : Bool := pl d && match d with
  | .tup ds => ds.all pl
  | _ => true
def Pn (d : D) : Prop := pnB d = true
theorem Pn.a {d : D} (h : Pn d) : pl d = true := by
  unfold Pn pnB at h
  rw [Bool.and_eq_true] at h
  exact h.1
theorem Pn.b {d : D} (h : Pn d) : ∀ ds, d = .tup ds → ∀ x ∈ ds, pl x = true := fun ds e x hx => by
  subst e
  unfold Pn pnB at h
  rw [Bool.and_eq_true] at h
  exact List.all_eq_true.mp h.2 x hx
theorem Pn.tup {ds : List D} (h : ∀ x ∈ ds, pl x = true) : Pn (.tup ds) := by
  unfold Pn pnB
  rw [Bool.and_eq_true]
  exact ⟨rfl, List.all_eq_true.mpr h⟩
end Dn
namespace Dn
open PySem PySem.Spec PyProof.Rows L2
theorem g_slT {xs : List D} {lo hi : Option Int} : slA (.tup xs) lo hi = some (.tup (cutD xs lo hi)) := rfl
theorem g_slL {xs : List D} {lo hi : Option Int} : slA (.lst xs) lo hi = some (.lst (cutD xs lo hi)) := rfl
theorem g_slC {ns : List Int} {lo hi : Option Int} : slA (.sc ns) lo hi = some (.lst (cutD (ns.map .int) lo hi)) := rfl
theorem g_repT {xs : List D} {k : Int} (h : xs ≠ []) (h2 : 2 ≤ k) (h3 : k ≤ 1000) (h4 : xs.length ≤ 1000) : repT (.tup xs) (.int k) = some (.tup (List.replicate k.toNat xs).flatten) := if_pos ⟨h, h2, h3, h4⟩
end Dn
namespace Dn
theorem rep_len {α : Type} {ds : List α} {n : Nat} : (List.replicate n ds).flatten.length = n * ds.length := by
  induction n with
  | zero => simp
  | succ n ih => rw [List.replicate_succ, List.flatten_cons, List.length_append, ih, Nat.succ_mul, Nat.add_comm]
end Dn
/-! == by an own def __eq__. -/
namespace Dn
open PySem PySem.Spec PyProof.Rows L2
/-- what == by an own def asks of the two values -/
def rOwn (K : PySem.W.Frag) (C : Addr) (F : Fn) : R2 := fun x y H Q => ∃ a dx fs t, x = .ref a ∧ H a = some (.ins C dx fs) ∧ TyX K H y t ∧ PySem.W.notFirst K C t = true ∧ SpD K F [x, y] H (fun v H' => (∃ b, v = .bl b) ∧ Q v H') (fun _ _ _ => False)
theorem op_own {X : Cx} {k : Nat} {C f : Addr} {fd : FuncData} {ps : List Str} {F : Fn} (G : FnOk X.prog X.w X.K X.mg X.base (L2.CX X.prog X.w) k f fd ps (SpD X.K F)) (hr : Room k X.A)
    (hs : PySem.W.findIn X.K (.ref C) "__eq__" = some (some (.ref f))) (hf : PySem.W.isFn X.K (.ref f) = true) (hb : Binds X.K fd ps []) : OpR X (compareOp .Eq) (rOwn X.K C F) := by
  intro pins s σ H x y u v Q I rx ry hq
  obtain ⟨a, dx, fs, t, rfl, ha, ty, nf, sp⟩ := hq
  show wpAny (model X.prog X.w) X.A (richCompare CmpOp.Eq u v) (EP X pins σ Q) X.xe s
  cases rx
  obtain ⟨m, J, _⟩ := ins_get I.hok ha
  obtain ⟨od, J, _⟩ := J.look
  obtain ⟨P', kx, hP, _⟩ := kit_of I ry ty
  obtain ⟨mm, hF⟩ := I.fr
  refine PySem.W.cmp_K hr.units0 hF I.ok.mod.kin J (kx.ty _ _ I.kIn hP) nf hs hf ?_
  have hl := G.len _ _ _ _ sp
  refine wpAny_call (codeAny_mono (G.run X.A X.stack s H ⟨[.ref a, v], []⟩ [.ref a, v] [.ref a, y] _ (fun _ _ _ => False) hr I.env0 ?_ (Paired.cons rfl (Paired.cons ry Paired.nil)) sp) ?_)
  · have := hb s [.ref a, v] I.kIn (by simpa using hl)
    simpa using this
  · intro r s' hc
    cases r with
    | error e =>
      obtain ⟨_, _, _, _, _, _, _, _, _, _, _, _, z⟩ := hc
      exact z.elim
    | ok fl =>
      cases fl with
      | ret w =>
        obtain ⟨z, H', I', rz, ⟨b, rfl⟩, q⟩ := Inv.after I hc
        cases rz
        exact ⟨.bl b, H', I', rfl, q⟩
      | _ => exact hc.elim
/-- == of an object of class C with a thing of one of these kinds -/
def eqF (C : Addr) (tb : List TK) (F : Fn) : Fn := fun os => match os with
  | [x, y] => match view x, tyK (view y) with
    | .ob C' _ _, some t => if C' = C ∧ t ∈ tb then match F [x, y] with
      | .ok (.val (.bl b)) ps => .ok (.val (.bl b)) ps
      | _ => .bad
      else .bad
    | _, _ => .bad
  | _ => .bad
structure EqK (K : PySem.W.Frag) (C : Addr) (tb : List TK) : Prop where
  nf : ∀ t ∈ tb, PySem.W.notFirst K C t.v = true
  it : ∀ t ∈ tb, ∀ C, t = .c C → InsT K C
theorem sp_own {K : PySem.W.Frag} {C : Addr} {tb : List TK} {F : Fn} (ek : EqK K C tb) {x y : V} {H : Hp} {Q : VK} {E : XK} (h : SpD K (eqF C tb F) [x, y] H Q E) : rOwn K C F x y H Q := by
  obtain ⟨Fm, as, h0, h1, er, hm⟩ := h
  cases q : eqF C tb F as with
  | bad => rw [q] at hm; exact hm.elim
  | ex C' fs ps =>
    unfold eqF at q
    split at q
    · split at q
      · split at q
        · split at q <;> cases q
        · cases q
      · cases q
    · cases q
  | ok r ps =>
    rw [q] at hm
    simp only at hm
    unfold eqF at q
    split at q
    · rename_i ox oy
      split at q
      · rename_i C' ns ds t hx hy
        split at q
        · rename_i hc
          obtain ⟨rfl, ht⟩ := hc
          split at q
          · rename_i b ps' hF
            cases q
            obtain ⟨Lv, op, k⟩ := ER.opn er
            obtain ⟨v1, e1, r1⟩ := op.sl 0 ox rfl
            obtain ⟨v2, e2, r2⟩ := op.sl 1 oy rfl
            cases e1
            cases e2
            rw [hx] at r1
            obtain ⟨a, dx, vs, rfl, ha, _⟩ := r1
            refine ⟨a, dx, _, t.v, rfl, ha, tyK_ok (ek.it t ht) r2 hy, ek.nf t ht, Fm, [ox, oy], h0, h1, er, ?_⟩
            rw [hF]
            intro v H' hl er'
            refine ⟨?_, hm v H' hl er'⟩
            obtain ⟨Lv', op', _⟩ := ER.opn er'
            have hl : ps.length = 2 := hl
            obtain ⟨v3, e3, r3⟩ := op'.sl 2 (.val (.bl b)) (by rw [List.getElem?_append_right (by omega), hl]; rfl)
            cases e3
            exact ⟨b, r3⟩
          · cases q
        · cases q
      · cases q
    · cases q
theorem df_eq {ι : Type} {X : ι → Cx} {Wf : ι → WX} {K : PySem.W.Frag} {n : Nat} {Pn : Nat → Bool} {e a b : Expr} {C : Addr} {tb : List TK} {F : Fn} {f h : En → Out AR} (ek : EqK K C tb) (ha : DA X Wf K n Pn a f) (hb : DA X Wf K n Pn b h)
    (mk : ∀ i ta tb, PE (X i) a ta → PE (X i) b tb → PE (X i) e (tOp (rOwn K C F) ta tb)) : DF X Wf K n Pn e (callD (eqF C tb F) (consA f (consA h nilA))) := by
  obtain ⟨ta, pa, ra⟩ := ha.ex
  obtain ⟨tb', pb, rb⟩ := hb.ex
  refine ⟨fun W => tOp (rOwn K C F) (ta W) (tb' W), fun i => mk i _ _ (pa i) (pb i), fun W S σ H en Q fi I P => ra W S σ H en _ fi I ?_⟩
  have hf : ∀ en, consA f (consA h nilA) en = (f en).bind fun a en => ((h en).bind fun b en => (nilA en).bind fun as en => .ok (b :: as) en).bind fun as en => .ok (a :: as) en := fun _ => rfl
  unfold callD at P
  rw [hf] at P
  cases q : f en with
  | ex C fs en' => rw [q] at P; exact P
  | bad => rw [q] at P; exact P
  | ok a1 en1 =>
    rw [q] at P
    intro v H1 tmp1 s1 J h1
    refine rb W (S.w tmp1) σ H1 en1 _ ((fi.to I J rfl).w _) J ?_
    cases q2 : h en1 with
    | ex C fs en' =>
      simp only [Dn.bind_ok, q2, Dn.bind_ex] at P
      exact PoX.w P s1
    | bad =>
      simp only [Dn.bind_ok, q2, Dn.bind_bad] at P
      exact P.elim
    | ok b1 en2 =>
      intro u H2 tmp2 s2 J2 h2
      simp only [Dn.bind_ok, q2] at P
      exact sp_own ek (callRun (W := W) ((fi.to I J rfl).to J J2 rfl) J2 (.cons (h1.mono s2) (.cons h2 .nil)) (fun q h => s2 q (s1 q h)) P)
structure Ke (P : Program) (w : World) (K : PySem.W.Frag) (mg : Str → Option Value) (base : Heap) (C : Addr) (k : Nat) (ps : List Str) (F : Fn) : Prop where
  ex : ∃ f fd, PySem.W.findIn K (.ref C) "__eq__" = some (some (.ref f)) ∧ PySem.W.isFn K (.ref f) = true ∧ Binds K fd ps [] ∧ FnOk P w K mg base (L2.CX P w) k f fd ps (SpD K F)
theorem df_ke {ι : Type} {X : ι → Cx} {Wf : ι → WX} {P : Program} {w : World} {K : PySem.W.Frag} {mg : Str → Option Value} {base : Heap} {n : Nat} {Pn : Nat → Bool} {a b : Expr} {pos : Pos} {C : Addr} {k : Nat} {ps : List Str} {tb : List TK} {F : Fn} {f h : En → Out AR}
    (G : Ke P w K mg base C k ps F) (cx : ∀ i, At (X i) P w K mg base) (hr : ∀ i, Room k (X i).A) (ek : EqK K C tb) (ha : DA X Wf K n Pn a f) (hb : DA X Wf K n Pn b h) (nm : behindInMarks .Eq b = false) :
    DF X Wf K n Pn (.Compare a [.Eq] [b] pos) (callD (eqF C tb F) (consA f (consA h nilA))) := df_eq ek ha hb fun i ta tb p q => by
  obtain ⟨fa, fd, h1, h2, h3, h4⟩ := G.ex
  have c := cx i
  have e : rOwn K C F = rOwn (X i).K C F := by rw [c.k]
  rw [e]
  refine pe_cmpR (op_own (k := k) (f := fa) (fd := fd) (ps := ps) ?_ (hr i) (by rw [c.k]; exact h1) (by rw [c.k]; exact h2) (by rw [c.k]; exact h3)) p q nm
  rw [c.p, c.w, c.k, c.m, c.b]; exact h4
theorem x_eqF {C C' : Addr} {tb : List TK} {F : Fn} {x y : O} {ns : List Str} {ds : List D} {t : TK} {b : Bool} {ps : En} (hx : view x = .ob C' ns ds) (hc : C' = C) (hy : tyK (view y) = some t) (ht : t ∈ tb) (h : F [x, y] = .ok (.val (.bl b)) ps) : eqF C tb F [x, y] = .ok (.val (.bl b)) ps := by
  unfold eqF
  simp only [hx, hy]
  rw [if_pos ⟨hc, ht⟩, h]
theorem eqk_of {K : PySem.W.Frag} {C : Addr} {bs : List String} (i : InsT K C) (h : ∀ a ∈ bs, PySem.W.subIn K (.type a) (.ref C) = some false) : EqK K C (.c C :: bs.map .b) := by
  refine ⟨fun t ht => ?_, fun t ht D e => ?_⟩
  · rcases List.mem_cons.mp ht with rfl | ht
    · unfold PySem.W.notFirst TK.v; simp
    · obtain ⟨a, ha, rfl⟩ := List.mem_map.mp ht
      unfold PySem.W.notFirst TK.v
      rw [h a ha]; simp
  · rcases List.mem_cons.mp ht with rfl | ht
    · cases e; exact i
    · obtain ⟨a, ha, rfl⟩ := List.mem_map.mp ht
      cases e
end Dn
/-! shifts, the last eight bits, isinstance of several, a, b = x, y. -/
namespace Dn
open PySem PySem.Spec PyProof.Rows L2
section
variable {K : PySem.W.Frag}
def shrI : D → D → Option D := ii fun i j => if 0 ≤ j then some (.int (i / 2 ^ j.toNat)) else none
theorem ok_shr : Ok2 K (rI (fun _ j => 0 ≤ j) fun i j => .int (i / 2 ^ j.toNat)) shrI := ok_rI fun i j c h => by
  by_cases hc : 0 ≤ j
  · rw [if_pos hc] at h; cases h; exact ⟨hc, rfl⟩
  · rw [if_neg hc] at h; cases h
def andI : D → D → Option D := ii fun i j => if j = 255 then some (.int (i % 256)) else none
theorem ok_and : Ok2 K (fun x y H Q => ∃ (i : Int) (k : Nat), x = .int i ∧ y = .int (2 ^ k - 1) ∧ Q (.int (i % 2 ^ k)) H) andI := fun H Lv x y d e c Q mu r1 r2 ec q => by
  obtain ⟨i, j, rfl, rfl, e1⟩ := ii_eq ec
  by_cases hc : j = 255
  · rw [if_pos hc] at e1
    cases e1
    subst hc
    exact ⟨i, 8, r1, r2, q _ H Grow.refl rfl⟩
  · rw [if_neg hc] at e1; cases e1
/-- of two built-in classes -/
def tbM (S T : String) : List (TK × Bool) := ["NoneType", "bool", "int", "str", "list", "tuple", "dict"].filterMap fun a => (kitB a S).bind fun b => (kitB a T).map fun c => (.b a, b || c)
theorem tbM_ok {S T : String} : ∀ q ∈ tbM S T, PySem.W.kitAny K q.1.v [.type S, .type T] = some q.2 ∧ ∀ C, q.1 = .c C → InsT K C := fun q h => by
  unfold tbM at h
  obtain ⟨a, _, e⟩ := List.mem_filterMap.mp h
  cases z : kitB a S with
  | none => rw [z] at e; cases e
  | some b =>
    rw [z] at e
    cases z2 : kitB a T with
    | none => rw [z2] at e; cases e
    | some c =>
      rw [z2] at e
      cases e
      refine ⟨?_, fun C h => nomatch h⟩
      have e1 : PySem.W.kitOne K (.type a) (.type S) = some b := kit_ty z
      have e2 : PySem.W.kitOne K (.type a) (.type T) = some c := kit_ty z2
      show PySem.W.kitAny K (.type a) [.type S, .type T] = _
      rw [PySem.W.kitAny.eq_2, PySem.W.kitAny.eq_2, PySem.W.kitAny.eq_1, e1, e2]
      cases b <;> cases c <;> rfl
def rM (K : PySem.W.Frag) (cs : List V) : V → Hp → VK → Prop := fun x H Q => cs.length ≤ sizeLine ∧ ∀ p, H p = none → rIsiT K [x, .ref p] (upd H p (.tup cs)) Q
theorem ok_isiM {cs : List V} {us : List Value} {tb : List (TK × Bool)} (hl : cs.length ≤ sizeLine) (hc : Paired ClsV cs us) (hk : ∀ q ∈ tb, PySem.W.kitAny K q.1.v us = some q.2 ∧ ∀ C, q.1 = .c C → InsT K C) : Ok1 K (rM K cs) (isiG tb) := fun H Lv x d z Q mu r ec q => by
  obtain ⟨t, e1, e2⟩ := bind_some ec
  cases e3 : tb.lookup t with
  | none => rw [e3] at e2; cases e2
  | some b =>
    rw [e3] at e2
    cases e2
    have m := hk _ (lookup_mem e3)
    refine ⟨hl, fun p hp => ?_⟩
    have g : Grow H (upd H p (.tup cs)) := Grow.upd hp
    have r' : RepR K (upd H p (.tup cs)) Lv d x := r.mono g.keep fun a o _ e => g a o e
    exact ⟨x, p, cs, t.v, us, b, rfl, upd_same, hc, tyK_ok m.2 r' e1, m.1, q _ _ g rfl⟩
end
section
variable {ι : Type} {X : ι → Cx} {Wf : ι → WX} {K : PySem.W.Frag} {n : Nat} {P : Nat → Bool} {s : Stmt} {es : List Expr}
def parD (i j : Nat) (f : En → Out (List AR)) : En → Out Fl := fun en => (f en).bind fun as en => match frzAs en as with
  | some [d, e] => .ok .nx ((en.set i (some (.val d))).set j (some (.val e)))
  | _ => .bad
theorem ds_par {i j : Nat} {f : En → Out (List AR)} (hi : i < n) (hP : P i = false) (hj : j < n) (hPj : P j = false) (ha : DAs X Wf K n P es f) (mk : ∀ k t, PA (X k) es t → PS (X k) s (tPar i j t)) : DS X Wf K n P s (parD i j f) := by
  obtain ⟨t, p, r⟩ := ha.ex
  refine ⟨fun W => tPar i j (t W), fun k => mk k _ (p k), fun W S σ H en B fi I Po => r W S σ H en _ fi I ?_⟩
  unfold parD at Po
  cases q : f en with
  | ok as en1 =>
    rw [q] at Po
    intro vs H1 tmp1 s1 J h1
    have Po : PoS K S W σ B (match frzAs en1 as with | some [d, e] => .ok .nx ((en1.set i (some (.val d))).set j (some (.val e))) | _ => .bad) := Po
    cases qv : frzAs en1 as with
    | none => rw [qv] at Po; exact Po.elim
    | some ds =>
      rw [qv] at Po
      obtain ⟨Lv, op, k⟩ := ER.opn J
      have rs := op.argsF h1 qv
      match ds, rs, Po with
      | [d, e], rs, Po =>
        obtain ⟨v, ws, rfl, r1, w, us, rfl, r2, rfl⟩ := rs
        have Po : PoS K S W σ B (.ok .nx ((en1.set i (some (.val d))).set j (some (.val e)))) := Po
        have J' : ER K S.F (σ ++ S.xv) H1 (en1 ++ S.xo) ((d, v) :: (e, w) :: S.tmp) := k H1 _ Grow.refl fun q hq => by
          rcases List.mem_cons.mp hq with rfl | hq
          · exact .inr r1
          · rcases List.mem_cons.mp hq with rfl | hq
            · exact .inr r2
            · exact .inl (s1 q hq)
        have l : i < σ.length := by rw [Stt.len I, fi.len]; exact hi
        have l' : i < en1.length := by rw [← Stt.len J]; exact l
        have m : j < σ.length := by rw [Stt.len I, fi.len]; exact hj
        have m' : j < en1.length := by rw [← Stt.len J]; exact m
        have E1 := ER.set (i := i) J' (pinNe fi hP)
        rw [List.set_append_left _ _ l, List.set_append_left _ _ l'] at E1
        have E2 := ER.set (i := j) E1 (pinNe fi hPj)
        rw [List.set_append_left _ _ (by simpa using m), List.set_append_left _ _ (by simpa using m')] at E2
        exact ⟨v, w, rfl, Po _ H1 (by simp) E2⟩
      | [], _, Po => exact Po.elim
      | [_], _, Po => exact Po.elim
      | _ :: _ :: _ :: _, _, Po => exact Po.elim
  | ex C fs en' => rw [q] at Po; exact Po.x
  | bad => rw [q] at Po; exact Po
def par3D (i j l : Nat) (f : En → Out (List AR)) : En → Out Fl := fun en => (f en).bind fun as en => match frzAs en as with
  | some [d, e, g] => .ok .nx (((en.set i (some (.val d))).set j (some (.val e))).set l (some (.val g)))
  | _ => .bad
theorem ds_par3 {i j l : Nat} {f : En → Out (List AR)} (hi : i < n) (hP : P i = false) (hj : j < n) (hPj : P j = false) (hl : l < n) (hPl : P l = false) (ha : DAs X Wf K n P es f) (mk : ∀ k t, PA (X k) es t → PS (X k) s (tPar3 i j l t)) : DS X Wf K n P s (par3D i j l f) := by
  obtain ⟨t, p, r⟩ := ha.ex
  refine ⟨fun W => tPar3 i j l (t W), fun k => mk k _ (p k), fun W S σ H en B fi I Po => r W S σ H en _ fi I ?_⟩
  unfold par3D at Po
  cases q : f en with
  | ok as en1 =>
    rw [q] at Po
    intro vs H1 tmp1 s1 J h1
    have Po : PoS K S W σ B (match frzAs en1 as with | some [d, e, g] => .ok .nx (((en1.set i (some (.val d))).set j (some (.val e))).set l (some (.val g))) | _ => .bad) := Po
    cases qv : frzAs en1 as with
    | none => rw [qv] at Po; exact Po.elim
    | some ds =>
      rw [qv] at Po
      obtain ⟨Lv, op, k⟩ := ER.opn J
      have rs := op.argsF h1 qv
      match ds, rs, Po with
      | [d, e, g], rs, Po =>
        obtain ⟨v, ws, rfl, r1, w, us, rfl, r2, u, xs, rfl, r3, rfl⟩ := rs
        have Po : PoS K S W σ B (.ok .nx (((en1.set i (some (.val d))).set j (some (.val e))).set l (some (.val g)))) := Po
        have J' : ER K S.F (σ ++ S.xv) H1 (en1 ++ S.xo) ((d, v) :: (e, w) :: (g, u) :: S.tmp) := k H1 _ Grow.refl fun q hq => by
          rcases List.mem_cons.mp hq with rfl | hq
          · exact .inr r1
          · rcases List.mem_cons.mp hq with rfl | hq
            · exact .inr r2
            · rcases List.mem_cons.mp hq with rfl | hq
              · exact .inr r3
              · exact .inl (s1 q hq)
        have a1 : i < σ.length := by rw [Stt.len I, fi.len]; exact hi
        have a2 : i < en1.length := by rw [← Stt.len J]; exact a1
        have b1 : j < σ.length := by rw [Stt.len I, fi.len]; exact hj
        have b2 : j < en1.length := by rw [← Stt.len J]; exact b1
        have c1 : l < σ.length := by rw [Stt.len I, fi.len]; exact hl
        have c2 : l < en1.length := by rw [← Stt.len J]; exact c1
        have E1 := ER.set (i := i) J' (pinNe fi hP)
        rw [List.set_append_left _ _ a1, List.set_append_left _ _ a2] at E1
        have E2 := ER.set (i := j) E1 (pinNe fi hPj)
        rw [List.set_append_left _ _ (by simpa using b1), List.set_append_left _ _ (by simpa using b2)] at E2
        have E3 := ER.set (i := l) E2 (pinNe fi hPl)
        rw [List.set_append_left _ _ (by simpa using c1), List.set_append_left _ _ (by simpa using c2)] at E3
        exact ⟨v, w, u, rfl, Po _ H1 (by simp) E3⟩
      | [], _, Po => exact Po.elim
      | [_], _, Po => exact Po.elim
      | [_, _], _, Po => exact Po.elim
      | _ :: _ :: _ :: _ :: _, _, Po => exact Po.elim
  | ex C fs en' => rw [q] at Po; exact Po.x
  | bad => rw [q] at Po; exact Po
end
section
variable {o : Option O} {en : En}
theorem x_par {i j : Nat} {f : En → Out (List AR)} : parD i j f (o :: en) = (f (o :: en)).bind fun as en => match frzAs en as with
  | some [d, e] => .ok .nx ((en.set i (some (.val d))).set j (some (.val e)))
  | _ => .bad := rfl
theorem x_par3 {i j l : Nat} {f : En → Out (List AR)} : par3D i j l f (o :: en) = (f (o :: en)).bind fun as en => match frzAs en as with
  | some [d, e, g] => .ok .nx (((en.set i (some (.val d))).set j (some (.val e))).set l (some (.val g)))
  | _ => .bad := rfl
end
/-- a tuple written at the top -/
structure Gt (K : PySem.W.Frag) (mg : Str → Option Value) (x : Str) (a : Addr) (vs : List V) : Prop where
  g : mg x = some (.ref a)
  k : ∃ (o : Obj) (its : Array Value) (n : Nat), K.lookup a = some o ∧ o.cls = .type "tuple" ∧ o.data = .seq its n ∧ its.size ≤ sizeLine ∧ Vals vs its.toList
section
variable {ι : Type} {X : ι → Cx} {Wf : ι → WX} {Pr : Program} {w : World} {K : PySem.W.Frag} {mg : Str → Option Value} {base : Heap} {n : Nat} {P : Nat → Bool} {b e : Expr} {pos p1 : Pos} {x : Str} {a : Addr} {vs : List V} {ds : List D}
theorem de_glen (G : Gt K mg x a vs) (cx : ∀ i, At (X i) Pr w K mg base) (gl : ∀ i, Gl (X i) x) (hd : (x == Str.ofString "__debug__") = false) (mk : ∀ i t, PE (X i) (.Name x p1) t → PE (X i) e (tCB (fun xs H Q => ∃ y n, xs = [y] ∧ LenV (X i).K y H n ∧ Q (V.int (n : Nat)) H) (tCons t tNil))) : DE X Wf K n P e (fun en => .ok (.int (vs.length : Nat)) en) :=
  de_c (v := .int (vs.length : Nat)) (fun i => ⟨fun pins s σ H Q I q => (mk i _ (pe_glob (v := .ref a) (gl i) (by rw [(cx i).m]; exact G.g) rfl hd)).run pins s σ H Q I ⟨.ref a, vs.length, rfl, .inr ⟨vs, .inr (by rw [(cx i).k]; exact G.k), rfl⟩, q⟩⟩) (fun _ _ _ => rfl)
def gixG (ds : List D) : D → Option D
  | .int i => atI ds i
  | _ => none
theorem ok_gix (G : Gt K mg x a vs) (hr : ∀ H Lv, RepL K H Lv ds vs) : Ok1 K (fun y H Q => rIx K (.ref a) y H Q) (gixG ds) := fun H Lv y d c Q mu r ec q => by
  cases d with
  | int i =>
    obtain ⟨v, e1, r2⟩ := atI_rep (hr H Lv) ec
    exact .inr (.inl ⟨a, vs, _, v, rfl, r, .inr G.k, e1, q v H Grow.refl r2⟩)
  | _ => cases ec
theorem de_gix {f : En → Out AR} (G : Gt K mg x a vs) (hr : ∀ H Lv, RepL K H Lv ds vs) (cx : ∀ i, At (X i) Pr w K mg base) (gl : ∀ i, Gl (X i) x) (hd : (x == Str.ofString "__debug__") = false) (hb : DA X Wf K n P b f) (pl : PlainIx b) : DE X Wf K n P (.Subscript (.Name x p1) b pos) (op1 (gixG ds) f) :=
  de_op1 (ok_gix G hr) hb fun i t q => by
    have c := cx i
    have p : PE (X i) (.Subscript (.Name x p1) b pos) (tOp (rIx (X i).K) (tC (.ref a)) t) := pe_ix ix_seq (pe_glob (v := .ref a) (gl i) (by rw [c.m]; exact G.g) rfl hd) q pl
    rw [c.k] at p
    exact p
end
end Dn
/-! slices of tuples with a step. -/
namespace Dn
open PySem PySem.Spec PyProof.Rows L2
section
variable {prog : Program} {w : World} {A : Around} {E : Value → Shared → Prop} {s : Shared}
theorem applied_step {sl : Addr} {vl vu vs : Value} {lo hi : Option Int} {st : Int} {n : Nat} {Q : Int × Int × Nat → Shared → Prop} (hs : s.heap.IsSliceOf sl vl vu vs) (pl : IsPart vl lo) (pu : IsPart vu hi) (ps : IsPart vs (some st)) (h0 : st ≠ 0)
    (h : Q ((Builtin.Slice.sliceAdjust lo hi st n).1, st, Builtin.Slice.slicePlaces (Builtin.Slice.sliceAdjust lo hi st n).1 (Builtin.Slice.sliceAdjust lo hi st n).2 st) s) :
    wpAny (model prog w) A (Builtin.Slice.sliceApplied (.ref sl) (pure (n : Int))) Q E s := by
  obtain ⟨os, hos, hcs, hds⟩ := hs
  unfold Builtin.Slice.sliceApplied Builtin.Slice.sliceFields
  refine wpAny_bind (wpAny_bind (wpAny_field hos hds rfl (wpAny_bind (wpAny_field hos hds rfl (wpAny_bind (wpAny_field hos hds rfl (wpAny_pure ?_)))))))
  refine wpAny_bind (HT.slicePart_ ps ?_)
  show wpAny (model prog w) A (if (st == 0) = true then _ else _) Q E s
  rw [if_neg (by simpa using h0)]
  refine wpAny_bind (HT.slicePart_ pl (wpAny_bind (HT.slicePart_ pu (wpAny_bind (wpAny_pure ?_)))))
  exact wpAny_pure h
/-- what a slice with a step takes -/
def stepL {α : Type} (xs : List α) (lo hi : Option Int) (st : Int) : List α :=
  (List.range (Builtin.Slice.slicePlaces (Builtin.Slice.sliceAdjust lo hi st xs.length).1 (Builtin.Slice.sliceAdjust lo hi st xs.length).2 st)).filterMap fun (k : Nat) => xs[((Builtin.Slice.sliceAdjust lo hi st xs.length).1 + (k : Int) * st).toNat]?
theorem getItem_tuple_step {t sl : Addr} {items : Array Value} {vl vu vs : Value} {lo hi : Option Int} {st : Int} {Q : Value → Shared → Prop} (ht : PyProof.Rows.IsTup s.heap t items) (hs : s.heap.IsSliceOf sl vl vu vs) (pl : IsPart vl lo) (pu : IsPart vu hi) (ps : IsPart vs (some st)) (h0 : st ≠ 0) (h1 : st ≠ 1)
    (h : Q (.ref s.heap.objs.size) { heap := s.heap.push { cls := .type "tuple", data := .seq (stepL items.toList lo hi st).toArray }, gens := s.gens, drawn := s.drawn, toks := s.toks, os := s.os }) (hz : (stepL items.toList lo hi st).length ≤ sizeLine) :
    wpAny (model prog w) A (getItem (.ref t) (.ref sl)) Q E s := by
  obtain ⟨os, hos, hcs, hds⟩ := hs
  have hTs : s.TypeIs (.ref sl) "slice" := ⟨os, hos, hcs⟩
  have hs : s.heap.IsSliceOf sl vl vu vs := ⟨os, hos, hcs, hds⟩
  unfold getItem
  refine wpAny_holding (wpAny_bind (wpAny_sequenceKey (PyProof.Rows.IsTup.typeIs ht) (by decide) (wpAny_bind (wpAny_callSpecial?_slot (PyProof.Rows.IsTup.typeIs ht) PyProof.Rows.slot_tuple_getitem (wpAny_call_entry PyProof.Rows.slot_tuple_getitem (PyProof.Rows.IsTup.typeIs ht) PyProof.Rows.entry_tuple_getitem ?_ (PyProof.Rows.args_tuple_getitem _ _))))))
  unfold Builtin.«tuple.__getitem__»
  show wpAny (model prog w) A.in1 (Builtin.Tuple.tupleItemsOf (.ref t) >>= fun xs => _) _ _ s
  refine wpAny_bind (PyProof.Rows.tupleItemsOf_ ht (wpAny_bind (wpAny_typeOf hTs ?_)))
  rw [if_pos (by decide)]
  have hn : items.size = items.toList.length := by simp
  refine wpAny_bind (applied_step hs pl pu ps h0 ?_)
  have c1 : ((Builtin.Slice.sliceAdjust lo hi st items.size).1 == 0 && st == 1 && Builtin.Slice.slicePlaces (Builtin.Slice.sliceAdjust lo hi st items.size).1 (Builtin.Slice.sliceAdjust lo hi st items.size).2 st == items.size) = false := by
    have : (st == 1) = false := by simpa using h1
    rw [this]; simp
  show wpAny (model prog w) A.in1 (if ((Builtin.Slice.sliceAdjust lo hi st items.size).1 == 0 && st == 1 && Builtin.Slice.slicePlaces (Builtin.Slice.sliceAdjust lo hi st items.size).1 (Builtin.Slice.sliceAdjust lo hi st items.size).2 st == items.size) = true then _ else _) _ _ s
  rw [if_neg (by rw [c1]; simp)]
  have ei : ((List.range (Builtin.Slice.slicePlaces (Builtin.Slice.sliceAdjust lo hi st items.size).1 (Builtin.Slice.sliceAdjust lo hi st items.size).2 st)).filterMap fun (k : Nat) => items[((Builtin.Slice.sliceAdjust lo hi st items.size).1 + (k : Int) * st).toNat]?) = stepL items.toList lo hi st := by
    unfold stepL
    rw [← hn]
    congr 1
    funext k
    rw [Array.getElem?_toList]
  show wpAny (model prog w) A.in1 (Builtin.Tuple.tupleExact (((List.range (Builtin.Slice.slicePlaces (Builtin.Slice.sliceAdjust lo hi st items.size).1 (Builtin.Slice.sliceAdjust lo hi st items.size).2 st)).filterMap fun (k : Nat) => items[((Builtin.Slice.sliceAdjust lo hi st items.size).1 + (k : Int) * st).toNat]?).toArray) >>= fun v => ret v) _ _ s
  rw [ei]
  refine wpAny_bind (wpAny_newObj_type (wpAny_pure ⟨_, rfl, wpAny_pure h⟩) ?_)
  unfold sizeOk
  simpa using hz
end

theorem paired_get {α β : Type} {R : α → β → Prop} : ∀ {xs : List α} {ys : List β}, Paired R xs ys → ∀ i : Nat, (xs[i]? = none ∧ ys[i]? = none) ∨ ∃ x y, xs[i]? = some x ∧ ys[i]? = some y ∧ R x y
  | _, _, .nil, i => .inl ⟨by simp, by simp⟩
  | _, _, .cons h t, 0 => .inr ⟨_, _, rfl, rfl, h⟩
  | _, _, .cons h t, i + 1 => by
    simp only [List.getElem?_cons_succ]
    exact paired_get t i
theorem paired_pick {α β : Type} {R : α → β → Prop} {xs : List α} {ys : List β} (h : Paired R xs ys) (g : Nat → Nat) : ∀ ks : List Nat, Paired R (ks.filterMap fun k => xs[g k]?) (ks.filterMap fun k => ys[g k]?)
  | [] => .nil
  | k :: ks => by
    rcases paired_get h (g k) with ⟨e1, e2⟩ | ⟨x, y, e1, e2, r⟩
    · rw [List.filterMap_cons_none (f := fun k => xs[g k]?) e1, List.filterMap_cons_none (f := fun k => ys[g k]?) e2]
      exact paired_pick h g ks
    · rw [List.filterMap_cons_some (f := fun k => xs[g k]?) e1, List.filterMap_cons_some (f := fun k => ys[g k]?) e2]
      exact .cons r (paired_pick h g ks)
theorem stepL_paired {α β : Type} {R : α → β → Prop} {xs : List α} {ys : List β} (h : Paired R xs ys) (lo hi : Option Int) (st : Int) : Paired R (stepL xs lo hi st) (stepL ys lo hi st) := by
  have e : xs.length = ys.length := Paired.length h
  unfold stepL
  rw [e]
  exact paired_pick h _ _
def SlR3 (X : Cx) (st : Int) (r : V → Option Int → Option Int → Hp → VK → Prop) : Prop :=
  ∀ (pins : List (Addr × Obj)) (s : Shared) (σ : L2.St) (H : Hp) (x : V) (v vl vu vs : Value) (lo hi : Option Int) (sl : Addr) (Q : VK), L2.Inv X pins σ H s → RelV x v → s.heap.IsSliceOf sl vl vu vs → IsPart vl lo → IsPart vu hi → IsPart vs (some st) → r x lo hi H Q →
    ∃ T id, typeLookup (.type T) (Str.ofString "__getitem__") = pure (some (.builtin id)) ∧ s.TypeIs v T ∧ wpAny (model X.prog X.w) X.A (getItem v (.ref sl)) (EP X pins σ Q) X.xe s
theorem pe_sliceS {X : Cx} {e ste : PySem.Expr} {te : TE} {lo hi : Option PySem.Expr} {tl th : TO} {pos p2 : Pos} {st : Int} {r : V → Option Int → Option Int → Hp → VK → Prop} (hr : SlR3 X st r) (he : PE X e te) (hl : PO X lo tl) (hu : PO X hi th) (hst : PO X (some ste) (fun _ H Q => Q (some st) H)) : PE X (e.Subscript (.Slice lo hi (some ste) p2) pos) (tSl r te tl th) := ⟨fun pins s σ H Q I h => by
  refine PyProof.Rows.Subscript_ (thn (he.run pins s σ H (fun x H1 => tl σ H1 fun l H2 => th σ H2 fun u H3 => r x l u H3 Q) I h) fun v s1 z => ?_)
  obtain ⟨x, H1, I1, r1, q1⟩ := z
  refine wpAny_Slice (thn (hl.run pins s1 σ H1 (fun l H2 => th σ H2 fun u H3 => r x l u H3 Q) I1 q1) fun vl s2 z => ?_)
  obtain ⟨l, H2, I2, pl, q2⟩ := z
  refine thn (hu.run pins s2 σ H2 (fun u H3 => r x l u H3 Q) I2 q2) fun vu s3 z => ?_
  obtain ⟨u, H3, I3, pu, q3⟩ := z
  refine thn (hst.run pins s3 σ H3 (fun o H4 => o = some st ∧ r x l u H4 Q) I3 ⟨rfl, q3⟩) fun vs s4 z => ?_
  obtain ⟨o, H4, I4, ps, rfl, q4⟩ := z
  have I5 := Inv.kept (t' := s4.toks) I4 fun b ob q => Heap.get?_push_of_some { cls := .type "slice", data := .fields #[vl, vu, vs] } q
  obtain ⟨T, id, hT, ht, hg⟩ := hr pins { heap := s4.heap.push { cls := .type "slice", data := .fields #[vl, vu, vs] }, gens := s4.gens, drawn := s4.drawn, toks := s4.toks, os := s4.os } σ H4 x v vl vu vs l u s4.heap.objs.size Q I5 r1 (Heap.IsSliceOf.new s4.1 vl vu vs) pl pu ps q4
  exact PyProof.Rows.tail_any ht hT hg rfl⟩
def rStep (K : PySem.W.Frag) (st : Int) : V → Option Int → Option Int → Hp → VK → Prop := fun x lo hi H Q => ∃ a xs, x = .ref a ∧ SqT K H a xs ∧ (stepL xs lo hi st).length ≤ xs.length ∧ ∀ p, H p = none → Q (.ref p) (upd H p (.tup (stepL xs lo hi st)))
theorem sl_step {X : Cx} {st : Int} (h0 : st ≠ 0) (h1 : st ≠ 1) : SlR3 X st (rStep X.K st) := fun pins s σ H x v vl vu vs lo hi sl Q I rx hs pl pu ps h => by
  obtain ⟨a, xs, rfl, hx, hl, q⟩ := h
  cases rx
  obtain ⟨its, r, ht, hz⟩ := Inv.tuple I hx
  have rr := stepL_paired r lo hi st
  have hll : (stepL its lo hi st).length = (stepL xs lo hi st).length := (Paired.length rr).symm
  refine ⟨"tuple", "tuple.__getitem__", PyProof.Rows.slot_tuple_getitem.lookup, PyProof.Rows.IsTup.typeIs ht, getItem_tuple_step ht hs pl pu ps h0 h1 ?_ (by simp only [List.toList_toArray]; omega)⟩
  have e : its.toArray.toList = its := rfl
  rw [e]
  exact ⟨.ref s.heap.objs.size, upd H s.heap.objs.size (.tup (stepL xs lo hi st)), Inv.laid I (fun b ob q => Heap.get?_push_of_some _ q) (Nat.le_refl _) ⟨by omega, _, rr, PyProof.Rows.IsTup.new s.heap _⟩, rfl, q _ (HOk.fresh I.hok (Nat.le_refl _))⟩
section
variable {K : PySem.W.Frag}
theorem repl_paired {H : Hp} {Lv : Addr → Prop} : ∀ {ds : List D} {vs : List V}, RepL K H Lv ds vs → Paired (Rep K H Lv) ds vs
  | [], _, h => by cases h; exact .nil
  | d :: ds, vs, ⟨v, ws, e, h1, h2⟩ => by cases e; exact .cons h1 (repl_paired h2)
theorem paired_repl {H : Hp} {Lv : Addr → Prop} : ∀ {ds : List D} {vs : List V}, Paired (Rep K H Lv) ds vs → RepL K H Lv ds vs
  | _, _, .nil => rfl
  | _, _, .cons h t => ⟨_, _, rfl, h, paired_repl t⟩
def slP (st : Int) : D → Option Int → Option Int → Option D
  | .tup ds, lo, hi => if (stepL ds lo hi st).length ≤ ds.length then some (.tup (stepL ds lo hi st)) else none
  | _, _, _ => none
theorem ok_slP {st : Int} : OkSl K (rStep K st) (slP st) := fun H Lv x d c lo hi Q mu r ec q => by
  cases d with
  | tup ds =>
    unfold slP at ec
    simp only at ec
    by_cases hl : (stepL ds lo hi st).length ≤ ds.length
    · rw [if_pos hl] at ec
      cases ec
      obtain ⟨a, vs, rfl, h, hz, hs⟩ := r
      have pr := repl_paired hs
      have ps := stepL_paired pr lo hi st
      have e1 := Paired.length pr
      have e2 := Paired.length ps
      refine ⟨a, vs, rfl, .inl (.inl h), by omega, fun p hp => q _ _ (Grow.upd hp) ⟨p, stepL vs lo hi st, rfl, upd_same, by omega, (paired_repl ps).mono (Grow.upd hp).keep⟩⟩
    · rw [if_neg hl] at ec; cases ec
  | _ => cases ec
end
section
variable {ι : Type} {X : ι → Cx} {Wf : ι → WX} {K : PySem.W.Frag} {n : Nat} {P : Nat → Bool} {e ste : PySem.Expr} {lo hi : Option PySem.Expr} {pos p2 : Pos}
theorem de_sliceS {st : Int} {r : V → Option Int → Option Int → Hp → VK → Prop} {g : D → Option Int → Option Int → Option D} {f : En → Out AR} {l u : En → Out (Option Int)} (hs : ∀ i, SlR3 (X i) st r) (hst : ∀ i, PO (X i) (some ste) (fun _ H Q => Q (some st) H)) (hr : OkSl K r g) (ha : DA X Wf K n P e f) (hl : DO X Wf K n P lo l) (hu : DO X Wf K n P hi u) :
    DE X Wf K n P (.Subscript e (.Slice lo hi (some ste) p2) pos) (slG g f l u) := by
  obtain ⟨t, p, rd⟩ := ha.ex
  obtain ⟨t2, p2, rd2⟩ := hl.ex
  obtain ⟨t3, p3, rd3⟩ := hu.ex
  refine ⟨fun W => tSl r (t W) (t2 W) (t3 W), fun i => pe_sliceS (hs i) (p i) (p2 i) (p3 i) (hst i), fun W S σ H en Q fi I Po => rd W S σ H en _ fi I ?_⟩
  unfold slG at Po
  cases q : f en with
  | ok ar en1 =>
    rw [q] at Po
    intro v H1 tmp1 s1 J h1
    refine rd2 W (S.w tmp1) σ H1 en1 _ ((fi.to I J rfl).w _) J ?_
    rw [bind_ok] at Po
    cases q2 : l en1 with
    | ok lo' en2 =>
      rw [q2, bind_ok] at Po
      intro H2 tmp2 s2 J2
      refine rd3 W (S.w tmp2) σ H2 en2 _ ((fi.to I J2 rfl).w _) J2 ?_
      cases q3 : u en2 with
      | ok hi' en3 =>
        rw [q3, bind_ok] at Po
        intro H3 tmp3 s3 J3
        obtain ⟨c, ec, Po⟩ := liftD Po
        obtain ⟨d, e1, e2⟩ := bind_some ec
        obtain ⟨Lv, op, k⟩ := ER.opn J3
        exact hr H3 Lv v d c lo' hi' Q op.mu (op.arg (h1.mono fun q h => s3 q (s2 q h)) e1) e2 fun v' H' g r => Po v' H' (ER.add k g r fun q h => s3 q (s2 q (s1 q h)))
      | ex C fs en' => rw [q3] at Po; exact PoX.w Po fun q h => s2 q (s1 q h)
      | bad => rw [q3] at Po; exact Po
    | ex C fs en' => rw [q2] at Po; exact PoX.w Po s1
    | bad => rw [q2] at Po; exact Po
  | ex C fs en' => rw [q] at Po; exact Po
  | bad => rw [q] at Po; exact Po
theorem po_int {X : Cx} {i : Int} {j : Nat} {p : Pos} : PO X (some (.Constant (.int i) j p)) (fun _ H Q => Q (some i) H) := by
  have h := po_some (X := X) (pe_int (X := X) (i := i) (j := j) (pos := p))
  exact ⟨fun pins s σ H Q I q => h.run pins s σ H Q I (by
    exact ⟨i, rfl, q⟩)⟩
end
end Dn
/-! a list made longer by a tuple or a list. -/
namespace Dn
open PySem PySem.Spec PyProof.Rows L2
theorem extend_any {prog : Program} {w : World} {A : Around} {E : Value → Shared → Prop} {s : Shared} {l b : Addr} {xs zs : Array Value} {c n : Nat} {o : Obj} {Q : Value → Shared → Prop} (hS : s.heap.get? l = some { cls := .type "list", data := .seq xs c }) (ho : s.heap.get? b = some o) (hc : o.cls = .type "tuple") (hd : o.data = .seq zs n) (hz : xs.size + zs.size ≤ sizeLine)
    (hQ : Q .none { heap := s.heap.update l (Obj.mapSeq fun x => x ++ zs), gens := s.gens, drawn := s.drawn, toks := s.toks, os := s.os }) : wpAny (model prog w) A (call (.builtin "list.extend") [.ref l, .ref b]) Q E s := by
  refine wpAny_call_entry F.slot_list_extend ⟨_, hS, rfl⟩ F.entry_list_extend ?_ (F.args_list_extend_2 _ _)
  show wpAny (model prog w) A.in1 (Builtin.List.listExtendWith (.ref l) (.ref b) .none) _ E s
  unfold Builtin.List.listExtendWith
  refine wpAny_bind (wpAny_typeOf ⟨o, ho, hc⟩ ?_)
  rw [if_pos (by simp)]
  unfold Builtin.List.listItems
  refine wpAny_bind (wpAny_bind (wpAny_seqItems ho hd (wpAny_pure ?_)))
  refine wpAny_bind (wpAny_bind (wpAny_seqItems hS rfl (wpAny_pure ?_)))
  have hlong : ¬(!xs.isEmpty && Builtin.List.listTooLong (xs.size + zs.size)) = true := by rw [notLongL hz]; simp
  show wpAny (model prog w) A.in1 (if (!xs.isEmpty && Builtin.List.listTooLong (xs.size + zs.size)) = true then _ else _) _ E s
  rw [if_neg hlong]
  refine wpAny_bind (wpAny_updateSeq hS rfl (wpAny_pure ?_))
  exact ⟨_, rfl, hQ⟩
def rExtT (K : PySem.W.Frag) : V → List V → Hp → VK → Prop := fun x vs H Q => ∃ l b xs zs, x = .ref l ∧ vs = [.ref b] ∧ H l = some (.lst xs) ∧ SqT K H b zs ∧ xs.length + zs.length ≤ sizeLine ∧ Q .non (upd H l (.lst (xs ++ zs)))
theorem mt_extendT {X : Cx} : MtR X "list.extend" (rExtT X.K) := fun pins s σ H x vs v us Q I rx rv h => by
  obtain ⟨l, b, xs, zs, rfl, rfl, hH, hB, hz, q⟩ := h
  cases rx
  obtain ⟨u, rfl, ru⟩ := Vals.one rv
  cases ru
  obtain ⟨z, its, n, r, hl, e⟩ := Inv.lstM I hH
  obtain ⟨its2, r2, ⟨o, ho, hc, n2, hd⟩, hz2⟩ := Inv.tuple I hB
  have hl2 : zs.length = its2.length := Vals.length r2
  refine extend_any e ho hc hd (by simp only [List.size_toArray]; omega) ?_
  exact ⟨.non, _, Inv.lset I hH e (by simp) (Vals.append r r2) (by rw [List.length_append]; exact hz), rfl, q⟩
section
variable {ι : Type} {X : ι → Cx} {Wf : ι → WX} {K : PySem.W.Frag} {n : Nat} {P : Nat → Bool} {s : Stmt} {a : PySem.Expr}
def extD (j : Nat) (f : En → Out D) : En → Out Fl := fun en => match lstAt en j with
  | none => .bad
  | some _ => (f en).bind fun d en => match lstAt en j, d with
    | some ds, .tup es => if ds.length + es.length ≤ 16777216 then .ok .nx (en.set j (some (.fl (.lst (ds ++ es))))) else .bad
    | _, _ => .bad
theorem RepL.app {H : Hp} {Lv : Addr → Prop} : ∀ {ds es : List D} {vs ws : List V}, RepL K H Lv ds vs → RepL K H Lv es ws → RepL K H Lv (ds ++ es) (vs ++ ws)
  | [], _, _, _, h, g => by cases h; exact g
  | d :: ds, es, vs, ws, ⟨v, us, e, h1, h2⟩, g => by cases e; exact ⟨v, us ++ ws, rfl, h1, RepL.app h2 g⟩
theorem ds_extend {j : Nat} {f : En → Out D} (he : DE X Wf K n P a f) (mk : ∀ i t, PE (X i) a t → PS (X i) s (tDrop (tBM K "list" (rExtT K) (tVar j) (tCons t tNil)))) : DS X Wf K n P s (extD j f) := by
  obtain ⟨t, p, r⟩ := he.ex
  refine ⟨fun W => tDrop (tBM K "list" (rExtT K) (tVar j) (tCons (t W) tNil)), fun i => mk i _ (p i), fun W S σ H en B fi I Po => ?_⟩
  unfold extD at Po
  split at Po
  · exact Po.elim
  · rename_i ds0 q0
    have e0 := lstAt_eq q0
    obtain ⟨Lv0, ad0, u0, _, hv0, hu0, hc0, _⟩ := Stt.wr I e0
    cases u0 with
    | lst xs0 =>
      refine ⟨_, hv0, .inl ⟨rfl, xs0, .inl (.inl hu0)⟩, r W S σ H en _ fi I ?_⟩
      cases q : f en with
      | ok d en1 =>
        rw [q] at Po
        intro v H1 J
        rw [Dn.bind_ok] at Po
        cases q1 : lstAt en1 j with
        | none => rw [q1] at Po; exact Po.elim
        | some ds =>
          rw [q1] at Po
          cases d with
          | tup es =>
            by_cases hl : ds.length + es.length ≤ 16777216
            · have Po : PoS K S W σ B (if ds.length + es.length ≤ 16777216 then .ok .nx (en1.set j (some (.fl (.lst (ds ++ es))))) else .bad) := Po
              rw [if_pos hl] at Po
              obtain ⟨Lv, ad, u, op, hv, hu, hc, w⟩ := Stt.wr J (lstAt_eq q1)
              rw [hv0] at hv
              cases hv
              cases u with
              | lst xs =>
                obtain ⟨hz, rl⟩ := hc
                obtain ⟨b, zs, hb, hH, hzs, rz⟩ := op.tm _ List.mem_cons_self
                simp only at hb
                subst hb
                have l1 := rl.length
                have l2 := rz.length
                refine ⟨_, b, xs, zs, rfl, rfl, hu, .inl (.inl hH), by rw [l1, l2, sizeLine_eq]; exact hl, ?_⟩
                refine Po σ _ rfl (ER.pop (w (.lst (xs ++ zs)) (.lst (ds ++ es)) ⟨?_, RepL.app rl rz⟩))
                rw [List.length_append, sizeLine_eq]; exact hl
              | _ => exact hc.elim
            · have Po : PoS K S W σ B (if ds.length + es.length ≤ 16777216 then .ok .nx (en1.set j (some (.fl (.lst (ds ++ es))))) else .bad) := Po
              rw [if_neg hl] at Po; exact Po.elim
          | _ => exact Po.elim
      | ex C fs en' => rw [q] at Po; exact Po.x
      | bad => rw [q] at Po; exact Po
    | _ => exact hc0.elim
theorem x_ext {o : Option O} {en : En} {j : Nat} {f : En → Out D} : extD j f (o :: en) = match lstAt (o :: en) j with
  | none => .bad
  | some _ => (f (o :: en)).bind fun d en => match lstAt en j, d with
    | some ds, .tup es => if ds.length + es.length ≤ 16777216 then .ok .nx (en.set j (some (.fl (.lst (ds ++ es))))) else .bad
    | _, _ => .bad := rfl
end
end Dn
/-! texts in which a written text is put in place of another: behind a test that hands a token out. -/
namespace Dn
open PySem PySem.Spec PyProof.Rows L2 CwR
section
variable {α : Type} {M : Model} {A : Around} {s : Shared} {t : Sem α} {Q Q' : α → Shared → Prop} {E E' : Value → Shared → Prop} {n : Nat}
theorem thnK (hn : n ≤ s.toks) (h : wpAny M A t Q E s) (hq : ∀ a s', n ≤ s'.toks → Q a s' → Q' a s') : wpAny M A t Q' E s :=
  wpAny_mono (PySem.wpAny_toks h) (fun a s' z => hq a s' (Nat.le_trans hn z.1) z.2) (fun _ _ z => z.2)
theorem thnKF (hn : n ≤ s.toks) (h : wpAny M A t Q (fun _ _ => False) s) (hq : ∀ a s', n ≤ s'.toks → Q a s' → Q' a s') : wpAny M A t Q' E s :=
  wpAny_mono (PySem.wpAny_toks h) (fun a s' z => hq a s' (Nat.le_trans hn z.1) z.2) (fun _ _ z => z.2.elim)
end
/-- behind a test `l == 5` a token is out -/
theorem tok_test {M : Model} {A : Around} {E : Value → Shared → Prop} {s : Shared} {env : Env} {l : PySem.Expr} {op : CmpOp} {k : Int} {j : Nat} {cp pos : Pos} {whole : Sem Value} {Q : Bool → Shared → Prop} (hm : behindInMarks op (.Constant (.int k) j cp) = false)
    (h : wpAny M A (isTrue (.Compare l [op] [.Constant (.int k) j cp] pos) env whole) Q E s) : wpAny M A (isTrue (.Compare l [op] [.Constant (.int k) j cp] pos) env whole) (fun b s' => 1 ≤ s'.toks ∧ Q b s') E s := by
  intro Γ p hΓ
  have g := h Γ p hΓ
  simp only [isTrue_Compare1, markedBehindIn_of_false hm, Sem.wp_bind', Sem.wp_holding, Sem.wp_cmd_standAt, Sem.wp_operate] at g ⊢
  refine Sem.wp_mono M Γ _ (fun a p1 s1 h1 => ?_) (fun _ _ _ z => z) _ _ g
  have up : 1 ≤ ({ s1 with toks := s1.toks + 1 } : Shared).toks := Nat.succ_le_succ (Nat.zero_le _)
  have h2 : Sem.wp M Γ (compareOp op a (.int k s1.toks)) (fun x pos' sh' => Sem.wp M Γ (truthy x) (fun a x s' => Q a s') (fun e x s' => E e s') pos' sh') (fun e x s' => E e s') pos ({ s1 with toks := s1.toks + 1 } : Shared) := h1
  show Sem.wp M Γ (compareOp op a (.int k s1.toks)) (fun x pos' sh' => Sem.wp M Γ (truthy x) (fun a x s' => 1 ≤ s'.toks ∧ Q a s') (fun e x s' => E e s') pos' sh') (fun e x s' => E e s') pos ({ s1 with toks := s1.toks + 1 } : Shared)
  refine Sem.wp_mono M Γ _ (fun c p3 s3 h3 => ?_) (fun _ _ _ z => z.2) _ _ (Sem.wp_toks M Γ 1 _ _ _ _ _ up h2)
  obtain ⟨k3, h3⟩ := h3
  exact Sem.wp_mono M Γ _ (fun b p4 s4 h4 => h4) (fun _ _ _ z => z.2) _ _ (Sem.wp_toks M Γ 1 _ _ _ _ _ k3 h3)
/-- an `if` of such a test, whose body wants the token -/
theorem ps_ifTok {X : Cx} {l : PySem.Expr} {op : CmpOp} {k : Int} {j : Nat} {cp pos q : Pos} {sa sb : List Stmt} {tc : TT} {t u : TS} (hm : behindInMarks op (.Constant (.int k) j cp) = false)
    (hc : PT X (.Compare l [op] [.Constant (.int k) j cp] pos) tc) (ha : PSsT X sa t) (hb : PSs X sb u) : PS X (.If (.Compare l [op] [.Constant (.int k) j cp] pos) sa sb q) (tIfS tc t u) := by
  refine ⟨fun pins s σ H D I h => wpAny_If (wpAny_mono (tok_test hm (hc.run pins s σ H _ I h)) (fun d s1 g => ?_) fun _ _ z => z)⟩
  obtain ⟨hk, H1, I1, g⟩ := g
  cases d with
  | true => exact ha pins s1 σ H1 D hk I1 g
  | false => exact hb.run pins s1 σ H1 D I1 g

/-! ### a comprehension whose element wants a token -/
section
variable {X : Cx} {elt tg iter : PySem.Expr} {ifs : List PySem.Expr} {scope : Scope} {own : List (Str × Nat)} {pos : Pos} {wi : TI} {g : TG} {tt : TT} {te : TE}
theorem pet_lcT (calm : X.calm = true) (nd : X.N.Nodup) (hi : PI X tg iter wi)
    (ok : BlkOk X.N X.env.scope scope own)
    (hg : ∀ (b : Shared) (G : Hp) (C : Addr) (cl : List (Str × Addr)) (fp : List Addr), PG (X.blk b G scope (compEnvC scope cl C X.env) fp) tg g)
    (ht : ∀ (b : Shared) (G : Hp) (C : Addr) (cl : List (Str × Addr)) (fp : List Addr), PTs (X.blk b G scope (compEnvC scope cl C X.env) fp) ifs tt)
    (he : ∀ (b : Shared) (G : Hp) (C : Addr) (cl : List (Str × Addr)) (fp : List Addr), PET (X.blk b G scope (compEnvC scope cl C X.env) fp) elt te)
    (hs : ∀ x, foldedSetIterable iter X.env x = pure x := by intro _; rfl) : PET X (.ListComp elt [⟨tg, iter, ifs, 0⟩] scope pos) (tLc wi g tt te (own.map (·.2))) := by
  intro pins s σ H Q h0 I0 h
  rw [eval_ListComp]
  have cl0 : ∀ y ∈ scope.names, y.2 = .free → ∃ c, X.env.cells.lookup y.1 = some c := fun y hy e =>
    (ok.free y hy e).elim (fun k => I0.ok.has _ (.inl k)) (fun k => I0.ok.has _ (.inr k))
  refine wpAny_comprehension_free (use := none) rfl hs (closure_ok cl0) ok.kind (fun y hy e => by rw [ok.uniq y hy, e])
    (thnK h0 (hi.run pins s σ H _ I0 h) fun xv s1 k1 hx =>
      thnK k1 hx fun itv s2 k2 h2 => ?_)
  obtain ⟨it, fp, tn, J, G2, rfl, I2, T, st2, f2, q⟩ := h2
  refine wpAny_newObj_type (newEnv_comp ?_) (by show 0 ≤ sizeLine; decide)
  generalize hL : s2.heap.objs.size = L
  have Ln : G2 L = none := I2.hok.fresh (Nat.le_of_eq hL)
  obtain ⟨W, ⟨m0, w0⟩, turn⟩ := q L Ln
  have hp3 : (s2.heap.push { cls := .type "list", data := .seq ([] : List Value).toArray }).get? L = some { cls := .type "list", data := .seq ([] : List Value).toArray } := by
    rw [← hL]; exact Heap.get?_push_size _ rfl
  have I3 : Inv X pins σ (upd G2 L (.lst [])) { s2 with heap := s2.heap.push { cls := .type "list", data := .seq ([] : List Value).toArray } } :=
    I2.laid (t' := s2.toks) (fun b o e => Heap.get?_push_of_some _ e) (Nat.le_of_eq hL) ⟨Nat.zero_le _, [], 0, .nil, hp3⟩
  have k3 : 1 ≤ ({ s2 with heap := s2.heap.push { cls := .type "list", data := .seq ([] : List Value).toArray } } : Shared).toks := k2
  have kp3 : ∀ b o, s2.heap.get? b = some o → ({ s2 with heap := s2.heap.push { cls := .type "list", data := .seq ([] : List Value).toArray } } : Shared).heap.get? b = some o := fun b o e => Heap.get?_push_of_some _ e
  have sz3 : ∀ b, b < s2.heap.objs.size → b < ({ s2 with heap := s2.heap.push { cls := .type "list", data := .seq ([] : List Value).toArray } } : Shared).heap.objs.size := fun b hb => by
    show b < (s2.heap.push _).objs.size
    rw [Heap.size_push]; exact Nat.lt_succ_of_lt hb
  generalize ({ s2 with heap := s2.heap.push { cls := .type "list", data := .seq ([] : List Value).toArray } } : Shared) = s3 at I3 k3 kp3 sz3 ⊢
  have f3 : ∀ b ∈ fp, FpOk X pins (upd G2 L (.lst [])) b ∧ b < s3.heap.objs.size := fun b hb => by
    obtain ⟨o, e, _⟩ := T.obj _ _ st2 b hb
    have lt := Heap.lt_size e
    refine ⟨⟨?_, (f2 b hb).2⟩, sz3 b lt⟩
    rw [upd_ne (by rw [← hL]; exact Nat.ne_of_lt lt)]; exact (f2 b hb).1
  have st3 : tn 0 s3.heap := T.keep _ _ _ st2 fun b _ o e => kp3 b o e
  have I4 := block_start I3 ok nd f3
  let cs := cellsFrom (s3.heap.objs.size + 1) scope.names (cloFrom X.env.cells scope.names [])
  have pg := hg s3 (upd G2 L (.lst [])) s3.heap.objs.size cs fp
  have pt := ht s3 (upd G2 L (.lst [])) s3.heap.objs.size cs fp
  have pe := he s3 (upd G2 L (.lst [])) s3.heap.objs.size cs fp
  show codeAny _ _ (.compStart (.ListComp elt [⟨tg, iter, ifs, 0⟩] scope pos) 0 (.ref it) (.ref L) (compEnvC scope cs s3.heap.objs.size X.env))
    (compPost (model X.prog X.w) X.A X.xe none (EP X pins σ Q) (.ref L) s3.heap.objs.size) { s3 with heap := pushCells (s3.heap.push { cls := .type "dict", data := .dict #[] }) scope.names }
  have none3 : ∀ b ∈ fp, (upd G2 L (.lst [])) b = none := fun b hb => (f3 b hb).1.1
  have I4 : Inv (X.blk s3 (upd G2 L (.lst [])) scope (compEnvC scope cs s3.heap.objs.size X.env) fp) [] (wipe σ (own.map (·.2))) (upd G2 L (.lst [])) { s3 with heap := pushCells (s3.heap.push { cls := .type "dict", data := .dict #[] }) scope.names } := I4
  have cL : (compEnvC scope cs s3.heap.objs.size X.env).locals = s3.heap.objs.size := rfl
  generalize compEnvC scope cs s3.heap.objs.size X.env = ce at I4 pg pt pe cL ⊢
  generalize upd G2 L (.lst []) = G3 at I3 I4 pg pt pe w0 none3 f3
  have st4 : tn 0 (pushCells (s3.heap.push { cls := .type "dict", data := .dict #[] }) scope.names) :=
    T.keep _ _ _ st3 fun b _ o e => pushCells_keeps _ _ _ _ (Heap.get?_push_of_some _ e)
  have k4 : 1 ≤ ({ s3 with heap := pushCells (s3.heap.push { cls := .type "dict", data := .dict #[] }) scope.names } : Shared).toks := k3
  have st4 : tn 0 ({ s3 with heap := pushCells (s3.heap.push { cls := .type "dict", data := .dict #[] }) scope.names } : Shared).heap := st4
  generalize ({ s3 with heap := pushCells (s3.heap.push { cls := .type "dict", data := .dict #[] }) scope.names } : Shared) = s4 at I4 st4 k4 ⊢
  have away : ∀ {τ : L2.St} {G : Hp} {z : Shared}, Inv (X.blk s3 G3 scope ce fp) [] τ G z → (∀ b ∈ fp, G b = none) → ∀ b ∈ fp, FpOk (X.blk s3 G3 scope ce fp) [] G b :=
    fun {τ G z} J hn b hb => ⟨hn b hb, (J.ok.exf b hb).1, J.ok.exfs b hb, .inl hb, fun x c e => (J.ok.exf b hb).2 x c e,
      fun p hp => absurd (show p ∈ ([] : List (Addr × Obj)) ++ [] from hp) (by simp)⟩
  have loop : codeAny (model X.prog X.w) X.A (.compLoop (.ListComp elt [⟨tg, iter, ifs, 0⟩] scope pos) 0 (.ref it) (.ref L) ce)
      (compPost (model X.prog X.w) X.A X.xe none (EP X pins σ Q) (.ref L) s3.heap.objs.size) s4 := by
    refine compLoop_any (fun n z => ∃ i G, 1 ≤ z.toks ∧ Inv (X.blk s3 G3 scope ce fp) [] (wipe σ (own.map (·.2))) G z ∧ tn i z.heap ∧ (∀ b ∈ fp, G b = none) ∧ W i n G) ?_ m0 ⟨0, G3, k4, I4, st4, none3, w0⟩
    rintro n s5 ⟨i, G5, k5, I5, st5, n5, w5⟩
    rcases turn i n G5 w5 with ⟨stop, qq⟩ | ⟨go, Nx, hNx, step⟩
    · have td := T.done (X.blk s3 G3 scope ce fp) rfl rfl rfl calm i [] s5 _ G5 (fun _ _ => False) I5 (away I5 n5) st5 stop
      refine thnKF k5 td fun r s6 _ ⟨hr, I6⟩ => ?_
      subst hr
      have I7 : Inv X pins σ G5 s6 := I3.call' (ch := fp) I6.os I6.base I6.hok I6.bare fun b hb =>
        ⟨(f3 b hb).1.2.2.2.1, (f3 b hb).1.2.1, (f3 b hb).1.2.2.2.2.1, (f3 b hb).1.2.2.2.2.2⟩
      have nC : G5 s3.heap.objs.size = none := by
        have z : G5 ce.locals = none := I6.free
        rwa [cL] at z
      obtain ⟨m, hn, _⟩ := I6.loc
      have hn : s6.heap.Ns ce.locals m := hn
      rw [cL] at hn
      obtain ⟨a0, a1, a2, a3, a4, a5⟩ := I3.fpOk (Nat.le_refl _) nC
      exact ⟨m, hn, fun h'' sb => ⟨.ref L, G5, I7.turned (t' := s6.toks) (fun b o hb e => (sb.2 b hb).trans e) a0 a1 a3 a4 a5, rfl, qq⟩⟩
    · have ti := T.item (X.blk s3 G3 scope ce fp) rfl rfl rfl calm i [] s5 _ G5 (fun _ _ => False) I5 (away I5 n5) st5 go
      refine thnKF k5 ti fun r s6 k6 ⟨u, hr, h6⟩ => ?_
      subst hr
      refine thnKF k6 h6 fun _ s7 k7 ⟨x, G7, I7, r7, y7, st7, n7⟩ => ?_
      have P7 := I7.pinned (away I7 n7) (T.obj _ _ st7)
      refine thnKF k7 (pg.run _ s7 _ G7 x u _ P7 r7 (step x G7 y7)) fun _ s8 k8 ⟨σ8, G8, I8, hw8, q8⟩ => ?_
      refine thnKF k8 (pt.run _ s8 σ8 G8 _ I8 q8) fun b s9 k9 ⟨G9, I9, q9⟩ => ?_
      have fin : ∀ {z : Shared} {G : Hp}, 1 ≤ z.toks → Inv (X.blk s3 G3 scope ce fp) ([] ++ pinsAt fp s7.heap) σ8 G z → Nx G →
          ∃ m, m < n ∧ ∃ i G, 1 ≤ z.toks ∧ Inv (X.blk s3 G3 scope ce fp) [] (wipe σ (own.map (·.2))) G z ∧ tn i z.heap ∧ (∀ b ∈ fp, G b = none) ∧ W i m G := fun {z G} kz Iz nx => by
        obtain ⟨m', hm, w'⟩ := hNx G nx
        have pin : ∀ b ∈ fp, ∀ o, s7.heap.get? b = some o → z.heap.get? b = some o ∧ G b = none := fun b hb o e =>
          let y := Iz.pin (b, o) (List.mem_append_right _ (List.mem_append_right _ (mem_pinsAt hb e)))
          ⟨y.1, y.2.1⟩
        refine ⟨m', hm, i + 1, G, kz, (Iz.unpinned (pins := [])).weak (by rw [← hw8, wipe_length]) (fun j v e => ?_), T.keep _ _ _ st7 fun b hb o e => (pin b hb o e).1, fun b hb => ?_, w'⟩
        · rw [← hw8] at e; exact (wipe_some e).1
        · obtain ⟨o, e, _⟩ := T.obj _ _ st7 b hb; exact (pin b hb o e).2
      cases b with
      | false => rw [if_neg Bool.false_ne_true] at q9 ⊢; exact fin k9 I9 q9
      | true =>
        rw [if_pos rfl] at q9 ⊢
        refine thnKF k9 (pe _ s9 σ8 G9 _ k9 I9 q9) fun z s10 k10 ⟨yv, G10, I10, r10, acc, hD10, hz10, nx⟩ => ?_
        exact thnKF k10 (app_ok (X := X.blk s3 G3 scope ce fp) (Q := fun _ s' => Inv (X.blk s3 G3 scope ce fp) ([] ++ pinsAt fp s7.heap) σ8 _ s') I10 hD10 hz10 r10 fun s11 I11 => I11) fun _ s11 k11 I11 => fin k11 I11 nx
  exact codeAny_compStart_list loop (T.self X.A 0 _ _ _ st4 loop)
end

/-! ### the judgements, a token out -/
section
variable {ι : Type} (X : ι → Cx) (Wf : ι → WX) (K : PySem.W.Frag) (n : Nat) (P : Nat → Bool)
structure DEt (e : PySem.Expr) (f : En → Out D) : Prop where
  ex : ∃ t : WX → TE, (∀ i, PET (X i) e (t (Wf i))) ∧ ∀ (W : WX) (S : Su) σ H en Q, Fine n P S en → Stt K S σ H en S.tmp → PoE K S W σ Q (f en) → t W σ H Q
structure DFt (e : PySem.Expr) (f : En → Out O) : Prop where
  ex : ∃ t : WX → TE, (∀ i, PET (X i) e (t (Wf i))) ∧ ∀ (W : WX) (S : Su) σ H en Q, Fine n P S en → Stt K S σ H en S.tmp → PoF K S W σ Q (f en) → t W σ H Q
structure DAt (e : PySem.Expr) (f : En → Out AR) : Prop where
  ex : ∃ t : WX → TE, (∀ i, PET (X i) e (t (Wf i))) ∧ ∀ (W : WX) (S : Su) σ H en Q, Fine n P S en → Stt K S σ H en S.tmp → PoA K S W σ Q (f en) → t W σ H Q
structure DAst (es : List PySem.Expr) (f : En → Out (List AR)) : Prop where
  ex : ∃ t : WX → TA, (∀ i, PAT (X i) es (t (Wf i))) ∧ ∀ (W : WX) (S : Su) σ H en Q, Fine n P S en → Stt K S σ H en S.tmp → PoAs K S W σ Q (f en) → t W σ H Q
structure DSt (s : Stmt) (f : En → Out Fl) : Prop where
  ex : ∃ t : WX → TS, (∀ i, PST (X i) s (t (Wf i))) ∧ ∀ (W : WX) (S : Su) σ H en B, Fine n P S en → Stt K S σ H en S.tmp → PoS K S W σ B (f en) → t W B σ H
end
section
variable {ι : Type} {X : ι → Cx} {Wf : ι → WX} {K : PySem.W.Frag} {n : Nat} {P : Nat → Bool} {e a b tg elt iter : PySem.Expr} {es ifs : List PySem.Expr} {pos : Pos}
theorem det_op1 {r : V → Hp → VK → Prop} {g : D → Option D} {f : En → Out AR} (hr : Ok1 K r g) (ha : DA X Wf K n P a f) (mk : ∀ i t, PE (X i) a t → PET (X i) e (tUn r t)) : DEt X Wf K n P e (op1 g f) := by
  obtain ⟨t, p, rd⟩ := ha.ex
  refine ⟨fun W => tUn r (t W), fun i => mk i _ (p i), fun W S σ H en Q fi I P => rd W S σ H en _ fi I ?_⟩
  unfold op1 at P
  cases q : f en with
  | ok a en1 =>
    rw [q] at P
    intro v H1 tmp1 s1 J h1
    obtain ⟨c, ec, P⟩ := liftD P
    obtain ⟨d, e1, e2⟩ := bind_some ec
    obtain ⟨Lv, op, k⟩ := ER.opn J
    exact hr H1 Lv v d c Q op.mu (op.arg h1 e1) e2 fun v' H' g r => P v' H' (ER.add k g r s1)
  | ex C fs en' => rw [q] at P; exact P
  | bad => rw [q] at P; exact P
theorem det_of_dft {f : En → Out O} (h : DFt X Wf K n P e f) : DEt X Wf K n P e (fun en => (f en).bind fun o en => .ok (view o) en) := by
  obtain ⟨t, p, r⟩ := h.ex
  refine ⟨t, p, fun W S σ H en Q fi I P => r W S σ H en Q fi I ?_⟩
  cases q : f en with
  | ok o en' =>
    rw [q] at P
    refine fun v H J => P v H ?_
    rw [← List.append_assoc, ← List.append_assoc] at J
    refine ER.freeze J fun q hq => ?_
    have l1 := (fi.pin q hq).1
    have l2 := J.len
    have l3 := S.xl
    have l4 := Stt.len I
    have l5 := fi.len
    simp only [List.length_append, List.length_cons, List.length_nil] at l2 ⊢
    have : σ.length = en'.length := by omega
    omega
  | ex C fs en' => rw [q] at P; exact P
  | bad => rw [q] at P; exact P
theorem dat_t {f : En → Out D} (h : DEt X Wf K n P e f) : DAt X Wf K n P e (fun en => (f en).bind fun d en => .ok (.t d) en) := by
  obtain ⟨t, p, r⟩ := h.ex
  refine ⟨t, p, fun W S σ H en Q fi I P => r W S σ H en Q fi I ?_⟩
  cases q : f en with
  | ok d en' => rw [q] at P; exact fun v H J => P v H _ (fun q h => List.mem_cons_of_mem _ h) J List.mem_cons_self
  | ex C fs en' => rw [q] at P; exact P
  | bad => rw [q] at P; exact P
theorem dast_nil : DAst X Wf K n P [] (fun en => .ok [] en) := ⟨fun _ => tNil, fun _ => pat_nil, fun W S σ H en Q fi I P => P [] H S.tmp (fun _ h => h) I .nil⟩
theorem dast_cons {f : En → Out AR} {g : En → Out (List AR)} (h : DAt X Wf K n P e f) (hs : DAst X Wf K n P es g) (st : ∀ i, starEach (e :: es) (X i).env = (false, eval e (X i).env) :: starEach es (X i).env := by intro _; rfl) :
    DAst X Wf K n P (e :: es) (fun en => (f en).bind fun a en => (g en).bind fun as en => .ok (a :: as) en) := by
  obtain ⟨t, p, r⟩ := h.ex
  obtain ⟨t2, p2, r2⟩ := hs.ex
  refine ⟨fun W => tCons (t W) (t2 W), fun i => pat_cons (p i) (p2 i) (st i), fun W S σ H en Q fi I P => r W S σ H en _ fi I ?_⟩
  cases q : f en with
  | ok a en1 =>
    rw [q] at P
    refine fun v H1 tmp1 s1 J h1 => r2 W (S.w tmp1) σ H1 en1 _ ((fi.to I J rfl).w _) J ?_
    have P : PoAs K S W σ Q ((g en1).bind fun as en => .ok (a :: as) en) := P
    cases q2 : g en1 with
    | ok as en2 =>
      rw [q2] at P
      exact fun vs H2 tmp2 s2 J2 h2 => P (v :: vs) H2 tmp2 (fun q h => s2 q (s1 q h)) J2 (.cons (h1.mono s2) h2)
    | ex C fs en' => rw [q2] at P; exact PoX.w P s1
    | bad => rw [q2] at P; exact P
  | ex C fs en' => rw [q] at P; exact P
  | bad => rw [q] at P; exact P

theorem det_opN {r : List V → Hp → VK → Prop} {g : List D → Option D} {f : En → Out (List AR)} (hr : OkN K r g) (ha : DAst X Wf K n P es f) (mk : ∀ i t, PAT (X i) es t → PET (X i) e (tCB r t)) : DEt X Wf K n P e (opN g f) := by
  obtain ⟨t, p, rd⟩ := ha.ex
  refine ⟨fun W => tCB r (t W), fun i => mk i _ (p i), fun W S σ H en Q fi I P => rd W S σ H en _ fi I ?_⟩
  unfold opN at P
  cases q : f en with
  | ok a en1 =>
    rw [q] at P
    intro v H1 tmp1 s1 J h1
    obtain ⟨c, ec, P⟩ := liftD P
    obtain ⟨d, e1, e2⟩ := bind_some ec
    obtain ⟨Lv, op, k⟩ := ER.opn J
    exact hr H1 Lv v d c Q op.mu (op.args h1 e1) e2 fun v' H' g r => P v' H' (ER.add k g r s1)
  | ex C fs en' => rw [q] at P; exact P
  | bad => rw [q] at P; exact P
theorem dft_of_det {f : En → Out D} (h : DEt X Wf K n P e f) : DFt X Wf K n P e (fun en => (f en).bind fun d en => .ok (.val d) en) := by
  obtain ⟨t, p, r⟩ := h.ex
  refine ⟨t, p, fun W S σ H en Q fi I P => r W S σ H en Q fi I ?_⟩
  cases q : f en with
  | ok d en' =>
    rw [q] at P
    refine fun v H J => P v H ?_
    have := ER.thaw J
    rw [List.append_assoc, List.append_assoc] at this
    exact this
  | ex C fs en' => rw [q] at P; exact P
  | bad => rw [q] at P; exact P

theorem dst_ret {f : En → Out O} (he : DFt X Wf K n P e f) : DSt X Wf K n P (.Return (some e) pos) (retF f) := by
  obtain ⟨t, p, r⟩ := he.ex
  refine ⟨fun W => tRet (t W), fun i => pst_ret (p i), fun W S σ H en B fi I Po => r W S σ H en _ fi I ?_⟩
  unfold retF at Po
  cases q : f en with
  | ok o en' =>
    rw [q] at Po
    exact fun v H1 J => Po v σ H1 rfl J
  | ex C fs en' => rw [q] at Po; exact Po.x
  | bad => rw [q] at Po; exact Po
theorem dft_lc {it : En → Out (List D)} {asg : D → En → Option En} {tt : En → Out Bool} {f : En → Out D} {sl : List Nat} {scope : Scope} {own : List (Str × Nat)}
    (hc : ∀ i, (X i).calm = true) (hN : ∀ i, (X i).N.Nodup) (ok : ∀ i, BlkOk (X i).N (X i).env.scope scope own) (hw : ∀ v ∈ own.map (·.2), v < n ∧ P v = false) (hsl : ∀ v ∈ sl, v ∈ own.map (·.2))
    (hi : DI X Wf K n P tg iter it) (hg : DG (blkF X scope) K n P tg sl asg) (ht : DTs (blkF X scope) (fun _ => W0) K n P ifs tt) (he : DEt (blkF X scope) (fun _ => W0) K n P elt f)
    (hs : ∀ i x, foldedSetIterable iter (X i).env x = pure x := by intro _ _; rfl) : DFt X Wf K n P (.ListComp elt [⟨tg, iter, ifs, 0⟩] scope pos) (lcF it asg tt f (own.map (·.2))) := by
  obtain ⟨ti, pi, ri⟩ := hi.ex
  obtain ⟨g, pg, rg⟩ := hg.ex
  obtain ⟨tT, pt, rt⟩ := ht.ex
  obtain ⟨te, pe, re⟩ := he.ex
  exact ⟨fun W => tLc (ti W) g (tT W0) (te W0) (own.map (·.2)), fun i => pet_lcT (hc i) (hN i) (pi i) (ok i) (fun s H C cl fp => pg (i, s, H, C, cl, fp)) (fun s H C cl fp => pt (i, s, H, C, cl, fp)) (fun s H C cl fp => pe (i, s, H, C, cl, fp)) (hs i),
    fun W S σ H en Q fi I Po => lc_run hw hsl ri rg rt re fi I Po⟩
/-- T(e, ..), T a type of the language -/
theorem pet_callTy {X : Cx} {T : String} {x : Str} {r : List V → Hp → VK → Prop} {t : TA} {p : Pos} (hc : CallR X (.type T) r) (hg : Gl X x) (hm : X.mg x = none) (hv : bootBuiltins x = some (.type T)) (ha : PAT X (e :: es) t)
    (hn : x ≠ "__name__" := by decide) (hdb : (x == ("__debug__" : Str)) = false := by decide)
    (he : starEach (e :: es) X.env = (false, eval e X.env) :: starEach es X.env := by rfl)
    (hpl : (backTo pos (starEach es X.env)).any (·.1) = false := by rfl) : PET X (.Call (.Name x p) (e :: es) [] pos) (tCB r t) := by
  intro pins s σ H Q h0 I h
  refine wpAny_Call_Name_kw (ld_blt I hg hm hv ?_ hn hdb)
  refine PyProof.Rows.callWith_type1 (thn (ha pos pins s σ H _ h0 I h) fun us s1 z => ?_) he hpl
  obtain ⟨vs, H1, I1, r1, q1⟩ := z
  exact hc pins s1 σ H1 vs us Q I1 r1 q1
theorem ds_ifTok {s : Stmt} {sb : List Stmt} {l : PySem.Expr} {op : CmpOp} {kk : Int} {j : Nat} {cp cpos q : Pos} {k : En → Out Bool} {f g : En → Out Fl} (hm : behindInMarks op (.Constant (.int kk) j cp) = false)
    (hc : DT X Wf K n P (.Compare l [op] [.Constant (.int kk) j cp] cpos) k) (ha : DSt X Wf K n P s f) (hb : DSs X Wf K n P sb g) : DS X Wf K n P (.If (.Compare l [op] [.Constant (.int kk) j cp] cpos) [s] sb q) (ifD k f g) := by
  obtain ⟨t, p, r⟩ := hc.ex
  obtain ⟨t1, p1, r1⟩ := ha.ex
  obtain ⟨t2, p2, r2⟩ := hb.ex
  refine ⟨fun W => tIfS (t W) (tSeq (t1 W) tNext) (t2 W), fun i => ps_ifTok hm (p i) (psst_cons (p1 i) (PSsT.of pss_nil)) (p2 i), fun W S σ H en B fi I Po => r W S σ H en _ fi I ?_⟩
  unfold ifD at Po
  cases q : k en with
  | ok k en' =>
    rw [q] at Po
    intro H1 J
    cases k with
    | true => exact r1 W S σ H1 en' _ (fi.to I J rfl) J Po
    | false => exact r2 W S σ H1 en' B (fi.to I J rfl) J Po
  | ex C fs en' => rw [q] at Po; exact Po.x
  | bad => rw [q] at Po; exact Po
/-! ### text.replace(a, b), both written -/
def rReplC (y z : Str) : V → Hp → VK → Prop := fun v H1 Q => ∃ x, v = .str x ∧ x.length + (x.length + 1) * z.length ≤ 16777216 ∧ Q (.str (Txt.replace x y z)) H1
def replS (y z : Str) : D → Option D
  | .str x => if x.length + (x.length + 1) * z.length ≤ 16777216 then some (.str (Txt.replace x y z)) else none
  | _ => none
theorem ok_repl {y z : Str} : Ok1 K (rReplC y z) (replS y z) := fun H Lv x d c Q mu r ec q => by
  cases d with
  | str t =>
    have ec : (if t.length + (t.length + 1) * z.length ≤ 16777216 then some (D.str (Txt.replace t y z)) else none) = some c := ec
    by_cases hb : t.length + (t.length + 1) * z.length ≤ 16777216
    · rw [if_pos hb] at ec
      cases ec
      exact ⟨t, r.1, hb, q _ H Grow.refl ⟨rfl, by rw [sizeLine_eq]; exact Nat.le_trans (TK.replace_len t y z) hb⟩⟩
    · rw [if_neg hb] at ec; cases ec
  | _ => cases ec
theorem det_repl {y z : Str} {f : En → Out AR} {j k : Nat} {c0 c1 apos : Pos} (ha : DA X Wf K n P a f) (hyz : (y == z) = false)
    (hst : ∀ i, starEach [.Constant (.str y) j c0, .Constant (.str z) k c1] (X i).env = [(false, eval (.Constant (.str y) j c0) (X i).env), (false, eval (.Constant (.str z) k c1) (X i).env)] := by intro _; rfl)
    (hbase : ∀ i, attributeBase a "replace" (X i).env (eval a (X i).env) = eval a (X i).env := by intro _; rfl) (hline : (apos.endLine == pos.line) = true := by rfl) :
    DEt X Wf K n P (.Call (.Attribute a "replace" apos) [.Constant (.str y) j c0, .Constant (.str z) k c1] [] pos) (op1 (replS y z) f) :=
  det_op1 (r := rReplC y z) ok_repl ha fun i t p => pet_replC p hyz (hst i) (hbase i) hline
end
end Dn
/-! sep.join of a tuple or a list of texts. -/
namespace Dn
open PySem PySem.Spec PyProof.Rows L2
variable {K : PySem.W.Frag}
def textsD : List D → Option (List Str)
  | [] => some []
  | .str x :: r => (textsD r).map fun l => x :: l
  | _ :: _ => none
theorem textsD_map (l : List Str) : textsD (l.map .str) = some l := by
  induction l with
  | nil => rfl
  | cons x r ih => rw [List.map_cons, textsD, ih]; rfl
theorem textsD_ok {H : Hp} {Lv : Addr → Prop} : ∀ {ds : List D} {vs : List V} {ys : List Str}, RepL K H Lv ds vs → textsD ds = some ys → vs = ys.map V.str
  | [], _, _, h, e => by cases e; exact h
  | d :: r, _, ys, ⟨v, ws, rfl, rv, h⟩, e => by
    cases d with
    | str x =>
      have e : (textsD r).map (fun l => x :: l) = some ys := e
      cases q : textsD r with
      | none => rw [q] at e; cases e
      | some zs =>
        rw [q] at e
        cases e
        rw [textsD_ok h q, rv.1]; rfl
    | _ => cases e
def joinW (a : Str) (ds : List D) : Option D := (textsD ds).bind fun ys => if (ys.map (·.length)).sum + ys.length * a.length ≤ 16777216 then some (.str (Txt.join a ys)) else none
def joinS : D → D → Option D
  | .str a, .tup ds => joinW a ds
  | .str a, .lst ds => joinW a ds
  | _, _ => none
theorem joinW_eq {a : Str} {ds : List D} {c : D} (e : joinW a ds = some c) : ∃ ys, textsD ds = some ys ∧ (ys.map (·.length)).sum + ys.length * a.length ≤ 16777216 ∧ c = .str (Txt.join a ys) := by
  unfold joinW at e
  obtain ⟨ys, e1, e2⟩ := bind_some e
  by_cases h : (ys.map (·.length)).sum + ys.length * a.length ≤ 16777216
  · rw [if_pos h] at e2; cases e2; exact ⟨ys, e1, h, rfl⟩
  · rw [if_neg h] at e2; cases e2
theorem join_fits {a : Str} {ys : List Str} (h : (ys.map (·.length)).sum + ys.length * a.length ≤ 16777216) : (Txt.join a ys).length ≤ sizeLine := by
  unfold Txt.join
  rw [size_glued, sizeLine_eq]
  have : (ys.length - 1) * a.length ≤ ys.length * a.length := Nat.mul_le_mul_right _ (Nat.sub_le _ _)
  omega
theorem ok_join : Ok2 K (fun x y H Q => ∃ a p, ∃ ys : List Str, x = .str a ∧ [y] = [.ref p] ∧ (SqL K H p (ys.map V.str) ∨ SqT K H p (ys.map V.str)) ∧
    (ys.map (·.length)).sum + ys.length * a.length ≤ 16777216 ∧ Q (.str (Txt.join a ys)) H) joinS := fun H Lv x y d e c Q mu r1 r2 ec q => by
  unfold joinS at ec
  split at ec
  · obtain ⟨ys, e1, hz, rfl⟩ := joinW_eq ec
    obtain ⟨p, vs, rfl, hp, _, rl⟩ := r2
    rw [textsD_ok rl e1] at hp
    exact ⟨_, p, ys, r1.1, rfl, .inr (.inl (.inl hp)), hz, q _ H Grow.refl ⟨rfl, join_fits hz⟩⟩
  · obtain ⟨ys, e1, hz, rfl⟩ := joinW_eq ec
    obtain ⟨p, vs, rfl, hp, _, rl⟩ := r2
    rw [textsD_ok rl e1] at hp
    exact ⟨_, p, ys, r1.1, rfl, .inl (.inl (.inl hp)), hz, q _ H Grow.refl ⟨rfl, join_fits hz⟩⟩
  · cases ec
/-- a comparison's value as a test -/
theorem pt_cmpV {X : Cx} {l r : PySem.Expr} {op : CmpOp} {pos : Pos} {t : TE} (hm : behindInMarks op r = false) (h : PE X (.Compare l [op] [r] pos) t) : PT X (.Compare l [op] [r] pos) (tB t) := by
  refine ⟨fun pins s σ H Q I hw => ?_⟩
  intro Γ p hΓ
  have g := h.run pins s σ H _ I hw Γ p hΓ
  simp only [eval_Compare1, isTrue_Compare1, markedBehindIn_of_false hm, Sem.wp_bind', Sem.wp_holding, Sem.wp_cmd_standAt, Sem.wp_operate] at g ⊢
  refine Sem.wp_mono _ Γ _ (fun a p1 s1 g1 => ?_) (fun _ _ _ z => z) _ _ g
  refine Sem.wp_mono _ Γ _ (fun b p2 s2 g2 => ?_) (fun _ _ _ z => z) _ _ g1
  refine Sem.wp_mono _ Γ _ (fun c p3 s3 g3 => ?_) (fun _ _ _ z => z) _ _ g2
  obtain ⟨x, H1, I1, r1, d, rfl, q⟩ := g3
  cases r1
  exact wpAny_truthy_bool (Q := TP X pins σ Q) ⟨H1, I1, q⟩ Γ p3 hΓ
end Dn
/-! a * k: of numbers, of a tuple, of a text. -/
namespace Dn
open PySem PySem.Spec PyProof.Rows L2
def repStr (z : Str) (k : Int) : Str := ⟨((List.replicate k.toNat z.cps.toList).flatten).toArray⟩
theorem foldl_rep (a : Array Nat) : ∀ (n : Nat) (acc : Array Nat), (List.replicate n a).foldl (· ++ ·) acc = acc ++ ((List.replicate n a.toList).flatten).toArray
  | 0, acc => by simp
  | n + 1, acc => by
    rw [List.replicate_succ, List.foldl_cons, foldl_rep a n, List.replicate_succ, List.flatten_cons, Array.append_assoc]
    congr 1
    apply Array.ext'
    simp
theorem repStr_len (z : Str) (k : Int) : (repStr z k).length = k.toNat * z.length := by
  show ((List.replicate k.toNat z.cps.toList).flatten).toArray.size = k.toNat * z.cps.size
  rw [List.size_toArray]
  generalize k.toNat = n
  induction n with
  | zero => simp
  | succ n ih => rw [List.replicate_succ, List.flatten_cons, List.length_append, ih, Nat.succ_mul, Nat.add_comm, Array.length_toList]
def rRepS : R2 := fun x y H Q => ∃ z k, x = .str z ∧ y = .int k ∧ 2 ≤ k ∧ k ≤ 1000 ∧ z.length ≤ 1000 ∧ Q (.str (repStr z k)) H
theorem op_repS {X : Cx} : OpR X (binaryOp .Mult) rRepS := by
  intro pins s σ H x y v u Q I rx ry h
  obtain ⟨z, k, rfl, rfl, k0, k1, hz, q⟩ := h
  obtain ⟨t, rfl⟩ := rx
  obtain ⟨t2, rfl⟩ := ry
  have hle : z.length * k.toNat ≤ 1000 * 1000 := Nat.mul_le_mul hz (by omega)
  refine PySem.P.mul_str (by rw [decide_eq_false (by omega), decide_eq_false (by omega)]; rfl) (fun _ _ hgt => ?_) (fun _ _ => ?_) ?_
  · have : (1000 : Int) ≤ (2 ^ 63 - 1) / k := Int.le_ediv_of_mul_le (by omega) (by omega)
    omega
  · unfold Builtin.Str.tooLong
    rw [sizeLine_eq]
    exact decide_eq_false (by omega)
  · rw [if_neg (by omega)]
    cases hc : (k == 1 || z.length == 0)
    · rw [if_neg Bool.false_ne_true, foldl_rep]
      have e : (#[] ++ ((List.replicate k.toNat z.cps.toList).flatten).toArray : Array Nat) = ((List.replicate k.toNat z.cps.toList).flatten).toArray := by simp
      rw [e]
      refine ⟨?_, .str (repStr z k), H, I.tok _, ⟨_, rfl⟩, q⟩
      have h1 : (repStr z k).length ≤ sizeLine := by rw [repStr_len, sizeLine_eq, Nat.mul_comm]; omega
      exact h1
    · rw [if_pos rfl]
      have z0 : z.length = 0 := by
        rcases Bool.or_eq_true_iff.mp hc with g | g
        · have := eq_of_beq g; omega
        · exact eq_of_beq g
      have e : repStr z k = z := by
        have h1 := repStr_len z k
        rw [z0, Nat.mul_zero] at h1
        have a : ∀ y : Str, y.length = 0 → y = Str.empty := fun y hy => by
          cases y with
          | mk c =>
            have : c = #[] := Array.eq_empty_of_size_eq_zero hy
            rw [this]; rfl
        rw [a _ h1, a _ z0]
      rw [e] at q
      exact ⟨.str z, H, I, ⟨t, rfl⟩, q⟩
def repSs : D → D → Option D
  | .str z, .int k => if 2 ≤ k ∧ k ≤ 1000 ∧ z.length ≤ 1000 then some (.str (repStr z k)) else none
  | _, _ => none
theorem ok_repSs {K : PySem.W.Frag} : Ok2 K rRepS repSs := fun H Lv x y d e c Q mu r1 r2 ec q => by
  unfold repSs at ec
  split at ec
  · rename_i z k
    by_cases hc : 2 ≤ k ∧ k ≤ 1000 ∧ z.length ≤ 1000
    · rw [if_pos hc] at ec
      cases ec
      refine ⟨z, k, r1.1, r2, hc.1, hc.2.1, hc.2.2, q _ H Grow.refl ⟨rfl, ?_⟩⟩
      have := Nat.mul_le_mul (show k.toNat ≤ 1000 by omega) hc.2.2
      rw [repStr_len, sizeLine_eq]; omega
    · rw [if_neg hc] at ec; cases ec
  · cases ec
def mulG (d e : D) : Option D := (mulI d e).or ((repSs d e).or (repA d e))
def rMulAny (K : PySem.W.Frag) : R2 := fun x y H Q => (rI CMul fun i j => .int (i * j)) x y H Q ∨ (rRepS x y H Q ∨ rRepA K x y H Q)
theorem op_mulAny {X : Cx} : OpR X (binaryOp .Mult) (rMulAny X.K) := op_mul.or (op_repS.or op_repA)
theorem ok_mulG {K : PySem.W.Frag} : Ok2 K (rMulAny K) mulG := Ok2.or ok_mul (Ok2.or ok_repSs ok_repA)
theorem g_mulT {xs : List D} {k : Int} (h : xs ≠ []) (h2 : -1000 ≤ k) (h3 : k ≤ 1000) (h4 : xs.length ≤ 1000) : mulG (.tup xs) (.int k) = some (.tup (List.replicate k.toNat xs).flatten) := g_repA h h2 h3 h4
theorem g_mulS {z : Str} {k : Int} (h : 2 ≤ k) (h2 : k ≤ 1000) (h3 : z.length ≤ 1000) : mulG (.str z) (.int k) = some (.str (repStr z k)) := by
  unfold mulG
  have e1 : mulI (.str z) (.int k) = none := rfl
  have e2 : repSs (.str z) (.int k) = some (.str (repStr z k)) := if_pos ⟨h, h2, h3⟩
  rw [e1, e2]; rfl
end Dn
/-! tuple(zip(a, b)) of two tuples: whatever zip finds of its last pair, each turn hands out a new one. -/
namespace DnZ
open PySem RZ
open PySem.Sem (wp)
/-- a zip, whatever it knows of its last pair -/
def ZAt (h : Heap) (z TI TO : Addr) (f0 : Value) (f1 : Bool) : Prop := h.get? z = some { cls := .type "zip", dict := none, data := .fields #[f0, .bool f1, .bool false, .ref TI, .ref TO], slots := #[] }
def Fld (f0 : Value) : Prop := f0 = .none ∨ ∃ T : Addr, f0 = rawInt T
section
variable {prog : Program} {w : World} {A : Around} {E : Value → Shared → Prop} {s : Shared} {z TI TO i1 i2 l1 l2 : Addr} {f0 : Value} {f1 : Bool}
theorem ask_alive {a : Addr} {Q : Option Obj → Shared → Prop} (h : Q (s.heap.get? a) s) : wpAny (model prog w) A (loadIfAlive a) Q E s := fun _ _ _ => h
theorem ask_free {Q : Bool → Shared → Prop} (hz : ZAt s.heap z TI TO f0 f1) (hf : Fld f0) (yes : Q true s)
    (no : ∀ h', ZAt h' z TI TO f0 true → Heap.SameBut z s.heap h' → Q false { s with heap := h' }) : wpAny (model prog w) A (Builtin.SmallTypes.ownedTupleIsFree (.ref z)) Q E s := by
  unfold Builtin.SmallTypes.ownedTupleIsFree
  rcases hf with rfl | ⟨T, rfl⟩
  · exact wpAny_bind (wpAny_field hz rfl (x := .none) rfl (wpAny_pure yes))
  · refine wpAny_bind (wpAny_field hz rfl (x := rawInt T) rfl ?_)
    show wpAny _ _ (loadIfAlive ((T : Int).toNat) >>= _) _ _ _
    refine wpAny_bind (ask_alive ?_)
    cases s.heap.get? ((T : Int).toNat) with
    | none => exact wpAny_pure yes
    | some o =>
      simp only [Option.isNone_some, Bool.false_eq_true, if_false]
      refine wpAny_bind (wpAny_field hz rfl (x := .bool f1) rfl ?_)
      cases f1 with
      | true => exact wpAny_pure (no s.heap hz (Heap.SameBut.refl _ _))
      | false => exact wpAny_bind (wpAny_setField_rec hz (by simp) fun h1 hz1 hs1 => wpAny_pure (no h1 hz1 hs1))
/-- one turn -/
theorem zip_turn {k1 k2 : Nat} {xs ys : Array Value} {x y a b : Value} {Q : Value → Shared → Prop} (D : ZipApart z TI TO i1 i2 l1 l2) (hz : ZAt s.heap z TI TO f0 f1) (hf : Fld f0)
    (hTI : IsPair s.heap TI (.ref i1) (.ref i2)) (hTO : IsPair s.heap TO a b) (h1 : s.heap.IsTupleIter i1 l1 k1) (h2 : s.heap.IsTupleIter i2 l2 k2) (hl1 : s.heap.IsTuple l1 xs) (hl2 : s.heap.IsTuple l2 ys)
    (hx : xs[k1]? = some x) (hy : ys[k2]? = some y)
    (fin : ∀ (h' : Heap) (g0 : Value) (g1 : Bool) (a' b' : Value), Fld g0 → ZAt h' z TI TO g0 g1 → IsPair h' TO a' b' → h'.IsTupleIter i1 l1 (k1 + 1) → h'.IsTupleIter i2 l2 (k2 + 1) → IsPair h' s.heap.objs.size x y → h'.objs.size = s.heap.objs.size + 1 →
      (∀ c o, c ≠ z → c ≠ TO → c ≠ i1 → c ≠ i2 → s.heap.get? c = some o → h'.get? c = some o) → Q (.ref s.heap.objs.size) { s with heap := h' }) :
    wpAny (model prog w) A (Builtin.«zip.__next__» ⟨[.ref z], []⟩) (fun r s' => ∃ v, r = .done (.ret v) ∧ Q v s') E s := by
  show wpAny _ _ (field (.ref z) 2 >>= _) _ _ _
  refine wpAny_bind (wpAny_field hz rfl (x := .bool false) rfl ?_)
  show wpAny _ _ (field (.ref z) 3 >>= _) _ _ _
  refine wpAny_bind (wpAny_field hz rfl (x := .ref TI) rfl (wpAny_bind (wpAny_seqItems hTI rfl ?_)))
  show wpAny _ _ (Builtin.SmallTypes.ownedTupleIsFree (.ref z) >>= _) _ _ _
  refine wpAny_bind (ask_free hz hf ?_ fun hA hzA sA => ?_)
  · simp only [if_true]
    refine wpAny_bind (wpAny_rule (wpAny_bind (wpAny_field hz rfl (x := .ref TO) rfl ?_)))
    refine wpAny_bind (wpAny_setField_rec hz (by simp) fun hA hzA sA => ?_)
    have hzA : ZAt hA z TI TO .ellipsis f1 := hzA
    refine wpAny_bind ?_
    simp only [List.zipIdx_cons, List.zipIdx_nil, List.forIn_cons, List.forIn_nil]
    refine wpAny_bind (wpAny_bind (wpAny_onRaise ?_))
    show wpAny _ _ (Builtin.SmallTypes.nextOf (.ref i1) >>= _) _ _ _
    refine wpAny_bind (nextOf_tuple_item (h1.extBut sA.extBut D.i1z) (hl1.extBut sA.extBut D.l1z) hx fun hB iB sB => wpAny_pure ?_)
    have tB : IsPair hB TO a b := sB.extBut _ _ D.TOi1 (sA.extBut _ _ D.TOz hTO)
    refine wpAny_bind (wpAny_seqItems tB rfl (wpAny_bind (wpAny_updateSeq_pair tB fun hC tC sC => ?_)))
    have tC : IsPair hC TO x b := tC
    refine wpAny_bind (wpAny_letGo (wpAny_pure (wpAny_bind (wpAny_bind (wpAny_onRaise ?_)))))
    show wpAny _ _ (Builtin.SmallTypes.nextOf (.ref i2) >>= _) _ _ _
    have jC : hC.IsTupleIter i2 l2 k2 := ((h2.extBut sA.extBut D.i2z).extBut sB.extBut D.i12.symm).extBut sC.extBut D.TOi2.symm
    have lC : hC.IsTuple l2 ys := ((hl2.extBut sA.extBut D.l2z).extBut sB.extBut D.l2i1).extBut sC.extBut D.l2TO
    refine wpAny_bind (nextOf_tuple_item jC lC hy fun hD jD sD => wpAny_pure ?_)
    have tD : IsPair hD TO x b := sD.extBut _ _ D.TOi2 tC
    refine wpAny_bind (wpAny_seqItems tD rfl (wpAny_bind (wpAny_updateSeq_pair tD fun hE tE sE => ?_)))
    have tE : IsPair hE TO x y := tE
    refine wpAny_bind (wpAny_letGo (wpAny_pure (wpAny_pure (wpAny_bind (wpAny_seqItems tE rfl (wpAny_bind (wpAny_newTuple ?_)))))))
    have zE : ZAt hE z TI TO .ellipsis f1 := sE.extBut _ _ D.TOz.symm (sD.extBut _ _ D.i2z.symm (sC.extBut _ _ D.TOz.symm (sB.extBut _ _ D.i1z.symm hzA)))
    have size : hE.objs.size = s.heap.objs.size := by rw [sE.1, sD.1, sC.1, sB.1, sA.1]
    have iE : hE.IsTupleIter i1 l1 (k1 + 1) := ((iB.extBut sC.extBut D.TOi1.symm).extBut sD.extBut D.i12).extBut sE.extBut D.TOi1.symm
    have jE : hE.IsTupleIter i2 l2 (k2 + 1) := jD.extBut sE.extBut D.TOi2.symm
    have keep : ∀ c o, c ≠ z → c ≠ TO → c ≠ i1 → c ≠ i2 → s.heap.get? c = some o → hE.get? c = some o := fun c o n1 n2 n3 n4 e =>
      sE.extBut _ _ n2 (sD.extBut _ _ n4 (sC.extBut _ _ n2 (sB.extBut _ _ n3 (sA.extBut _ _ n1 e))))
    have zlt : z < hE.objs.size := Heap.lt_size zE
    show wpAny _ _ (Builtin.SmallTypes.ownedTupleHandOut (.ref z) (.ref hE.objs.size) >>= _) _ _ _
    refine wpAny_bind ?_
    unfold Builtin.SmallTypes.ownedTupleHandOut
    have zP : ZAt (hE.push { cls := .type "tuple", data := .seq #[x, y] }) z TI TO .ellipsis f1 := Heap.get?_push_of_some _ zE
    refine wpAny_bind (wpAny_setField_rec zP (by simp) fun hF zF sF => ?_)
    have zF : ZAt hF z TI TO (rawInt hE.objs.size) f1 := zF
    refine wpAny_setField_rec zF (by simp) fun hG zG sG => ?_
    have zG : ZAt hG z TI TO (rawInt hE.objs.size) false := zG
    have up : ∀ c o, c ≠ z → hE.get? c = some o → hG.get? c = some o := fun c o n e => sG.extBut _ _ n (sF.extBut _ _ n (Heap.get?_push_of_some _ e))
    have new : IsPair hG hE.objs.size x y := sG.extBut _ _ (Nat.ne_of_gt zlt) (sF.extBut _ _ (Nat.ne_of_gt zlt) (Heap.get?_push_size _ rfl))
    have sz : hG.objs.size = hE.objs.size + 1 := by rw [sG.1, sF.1, Heap.size_push]
    refine wpAny_pure ⟨_, rfl, ?_⟩
    show Q (.ref hE.objs.size) _
    rw [size] at zG new sz ⊢
    exact fin hG _ _ x y (.inr ⟨_, rfl⟩) zG (up _ _ D.TOz tE) (iE.at fun o e => up _ o D.i1z e) (jE.at fun o e => up _ o D.i2z e) new sz fun c o n1 n2 n3 n4 e => up c o n1 (keep c o n1 n2 n3 n4 e)
  · simp only [Bool.false_eq_true, if_false]
    refine wpAny_bind ?_
    rw [← Array.forIn_toList]
    simp only [List.forIn_cons, List.forIn_nil]
    refine wpAny_bind (wpAny_bind (wpAny_holding ?_))
    show wpAny _ _ (Builtin.SmallTypes.nextOf (.ref i1) >>= _) _ _ _
    refine wpAny_bind (nextOf_tuple_item (s := { s with heap := hA }) (h1.extBut sA.extBut D.i1z) (hl1.extBut sA.extBut D.l1z) hx fun hB iB sB => wpAny_pure (wpAny_pure ?_))
    refine wpAny_bind (wpAny_bind (wpAny_holding ?_))
    show wpAny _ _ (Builtin.SmallTypes.nextOf (.ref i2) >>= _) _ _ _
    refine wpAny_bind (nextOf_tuple_item (s := { s with heap := hB }) ((h2.extBut sA.extBut D.i2z).extBut sB.extBut D.i12.symm) ((hl2.extBut sA.extBut D.l2z).extBut sB.extBut D.l2i1) hy fun hC jC sC => wpAny_pure (wpAny_pure (wpAny_pure ?_)))
    show wpAny _ _ (newTuple [x, y] >>= _) _ _ _
    refine wpAny_bind (wpAny_newTuple (wpAny_pure ⟨_, rfl, ?_⟩))
    have size : hC.objs.size = s.heap.objs.size := by rw [sC.1, sB.1, sA.1]
    have zC : ZAt hC z TI TO f0 true := sC.extBut _ _ D.i2z.symm (sB.extBut _ _ D.i1z.symm hzA)
    have keep : ∀ c o, c ≠ z → c ≠ i1 → c ≠ i2 → s.heap.get? c = some o → hC.get? c = some o := fun c o n1 n2 n3 e => sC.extBut _ _ n3 (sB.extBut _ _ n2 (sA.extBut _ _ n1 e))
    have iC : hC.IsTupleIter i1 l1 (k1 + 1) := iB.extBut sC.extBut D.i12
    have tC : IsPair hC TO a b := keep _ _ D.TOz D.TOi1 D.TOi2 hTO
    show Q (.ref hC.objs.size) _
    have new : IsPair (hC.push { cls := .type "tuple", data := .seq #[x, y] }) hC.objs.size x y := Heap.get?_push_size _ rfl
    have sz : (hC.push { cls := .type "tuple", data := .seq #[x, y] }).objs.size = hC.objs.size + 1 := Heap.size_push ..
    rw [size] at new sz ⊢
    exact fin _ _ _ a b hf (Heap.get?_push_of_some _ zC) (Heap.get?_push_of_some _ tC) (iC.at fun o e => Heap.get?_push_of_some _ e) (jC.at fun o e => Heap.get?_push_of_some _ e) new sz fun c o n1 _ n3 n4 e => Heap.get?_push_of_some _ (keep c o n1 n3 n4 e)
theorem zip_stop {k1 k2 : Nat} {xs ys : Array Value} {a b : Value} {Q : Fin → Shared → Prop} (hh : A.handled = none) (D : ZipApart z TI TO i1 i2 l1 l2) (hz : ZAt s.heap z TI TO f0 f1) (hf : Fld f0)
    (hTI : IsPair s.heap TI (.ref i1) (.ref i2)) (hTO : IsPair s.heap TO a b) (h1 : s.heap.IsTupleIter i1 l1 k1) (h2 : s.heap.IsTupleIter i2 l2 k2) (hl1 : s.heap.IsTuple l1 xs) (hl2 : s.heap.IsTuple l2 ys)
    (hend : xs[k1]? = none ∨ ys[k2]? = none)
    (out : ∀ h' e, (∀ c o, c ≠ z → c ≠ TO → c ≠ i1 → c ≠ i2 → s.heap.get? c = some o → h'.get? c = some o) → (∃ o, h'.get? e = some o ∧ o.cls = .type "StopIteration") → E (.ref e) { s with heap := h' }) :
    wpAny (model prog w) A (Builtin.«zip.__next__» ⟨[.ref z], []⟩) Q E s := by
  show wpAny _ _ (field (.ref z) 2 >>= _) _ _ _
  refine wpAny_bind (wpAny_field hz rfl (x := .bool false) rfl ?_)
  show wpAny _ _ (field (.ref z) 3 >>= _) _ _ _
  refine wpAny_bind (wpAny_field hz rfl (x := .ref TI) rfl (wpAny_bind (wpAny_seqItems hTI rfl ?_)))
  show wpAny _ _ (Builtin.SmallTypes.ownedTupleIsFree (.ref z) >>= _) _ _ _
  refine wpAny_bind (ask_free hz hf ?_ fun hA hzA sA => ?_)
  · simp only [if_true]
    refine wpAny_bind (wpAny_rule (wpAny_bind (wpAny_field hz rfl (x := .ref TO) rfl ?_)))
    refine wpAny_bind (wpAny_setField_rec hz (by simp) fun hA hzA sA => ?_)
    have hzA : ZAt hA z TI TO .ellipsis f1 := hzA
    refine wpAny_bind ?_
    simp only [List.zipIdx_cons, List.zipIdx_nil, List.forIn_cons, List.forIn_nil]
    refine wpAny_bind (wpAny_bind (wpAny_onRaise ?_))
    show wpAny _ _ (Builtin.SmallTypes.nextOf (.ref i1) >>= _) _ _ _
    cases hx : xs[k1]? with
    | none =>
      refine wpAny_bind (nextOf_tuple_end hh (h1.extBut sA.extBut D.i1z) (hl1.extBut sA.extBut D.l1z) hx fun hB e sB he => ?_)
      obtain ⟨oe, hoe, hce⟩ := he
      have zB : ZAt hB z TI TO .ellipsis f1 := sB _ _ D.i1z.symm hzA
      have ne : e ≠ z := fun y => by
        have zB2 := zB
        unfold ZAt at zB2
        rw [y, zB2] at hoe
        cases hoe
        simp at hce
      exact wpAny_setField_rec zB (by simp) fun hC _ sC => out hC e (fun c o n1 _ n3 _ y => sC.extBut _ _ n1 (sB _ _ n3 (sA.extBut _ _ n1 y))) ⟨oe, sC.extBut _ _ ne hoe, hce⟩
    | some x =>
      have hy : ys[k2]? = none := by
        rcases hend with g | g
        · rw [hx] at g; cases g
        · exact g
      refine wpAny_bind (nextOf_tuple_item (h1.extBut sA.extBut D.i1z) (hl1.extBut sA.extBut D.l1z) hx fun hB iB sB => wpAny_pure ?_)
      have tB : IsPair hB TO a b := sB.extBut _ _ D.TOi1 (sA.extBut _ _ D.TOz hTO)
      refine wpAny_bind (wpAny_seqItems tB rfl (wpAny_bind (wpAny_updateSeq_pair tB fun hC tC sC => ?_)))
      refine wpAny_bind (wpAny_letGo (wpAny_pure (wpAny_bind (wpAny_bind (wpAny_onRaise ?_)))))
      show wpAny _ _ (Builtin.SmallTypes.nextOf (.ref i2) >>= _) _ _ _
      have jC : hC.IsTupleIter i2 l2 k2 := ((h2.extBut sA.extBut D.i2z).extBut sB.extBut D.i12.symm).extBut sC.extBut D.TOi2.symm
      have lC : hC.IsTuple l2 ys := ((hl2.extBut sA.extBut D.l2z).extBut sB.extBut D.l2i1).extBut sC.extBut D.l2TO
      refine wpAny_bind (nextOf_tuple_end hh jC lC hy fun hD e sD he => ?_)
      obtain ⟨oe, hoe, hce⟩ := he
      have zD : ZAt hD z TI TO .ellipsis f1 := sD _ _ D.i2z.symm (sC.extBut _ _ D.TOz.symm (sB.extBut _ _ D.i1z.symm hzA))
      have ne : e ≠ z := fun y => by
        have zD2 := zD
        unfold ZAt at zD2
        rw [y, zD2] at hoe
        cases hoe
        simp at hce
      exact wpAny_setField_rec zD (by simp) fun hE _ sE => out hE e (fun c o n1 n2 n3 n4 y => sE.extBut _ _ n1 (sD _ _ n4 (sC.extBut _ _ n2 (sB.extBut _ _ n3 (sA.extBut _ _ n1 y))))) ⟨oe, sE.extBut _ _ ne hoe, hce⟩
  · simp only [Bool.false_eq_true, if_false]
    refine wpAny_bind ?_
    rw [← Array.forIn_toList]
    simp only [List.forIn_cons, List.forIn_nil]
    refine wpAny_bind (wpAny_bind (wpAny_holding ?_))
    show wpAny _ _ (Builtin.SmallTypes.nextOf (.ref i1) >>= _) _ _ _
    cases hx : xs[k1]? with
    | none => exact wpAny_bind (nextOf_tuple_end (s := { s with heap := hA }) hh (h1.extBut sA.extBut D.i1z) (hl1.extBut sA.extBut D.l1z) hx fun hB e sB he => out hB e (fun c o n1 _ n3 _ y => sB _ _ n3 (sA.extBut _ _ n1 y)) he)
    | some x =>
      have hy : ys[k2]? = none := by
        rcases hend with g | g
        · rw [hx] at g; cases g
        · exact g
      refine wpAny_bind (nextOf_tuple_item (s := { s with heap := hA }) (h1.extBut sA.extBut D.i1z) (hl1.extBut sA.extBut D.l1z) hx fun hB iB sB => wpAny_pure (wpAny_pure ?_))
      refine wpAny_bind (wpAny_bind (wpAny_holding ?_))
      show wpAny _ _ (Builtin.SmallTypes.nextOf (.ref i2) >>= _) _ _ _
      exact wpAny_bind (nextOf_tuple_end (s := { s with heap := hB }) hh ((h2.extBut sA.extBut D.i2z).extBut sB.extBut D.i12.symm) ((hl2.extBut sA.extBut D.l2z).extBut sB.extBut D.l2i1) hy fun hC e sC he =>
        out hC e (fun c o n1 _ n3 n4 y => sC _ _ n4 (sB.extBut _ _ n3 (sA.extBut _ _ n1 y))) he)
/-! ### through pyNext -/
theorem next_turn {k1 k2 : Nat} {xs ys : Array Value} {x y a b : Value} {Q : Option Value → Shared → Prop} (D : ZipApart z TI TO i1 i2 l1 l2) (hz : ZAt s.heap z TI TO f0 f1) (hf : Fld f0)
    (hTI : IsPair s.heap TI (.ref i1) (.ref i2)) (hTO : IsPair s.heap TO a b) (h1 : s.heap.IsTupleIter i1 l1 k1) (h2 : s.heap.IsTupleIter i2 l2 k2) (hl1 : s.heap.IsTuple l1 xs) (hl2 : s.heap.IsTuple l2 ys)
    (hx : xs[k1]? = some x) (hy : ys[k2]? = some y)
    (fin : ∀ (h' : Heap) (g0 : Value) (g1 : Bool) (a' b' : Value), Fld g0 → ZAt h' z TI TO g0 g1 → IsPair h' TO a' b' → h'.IsTupleIter i1 l1 (k1 + 1) → h'.IsTupleIter i2 l2 (k2 + 1) → IsPair h' s.heap.objs.size x y → h'.objs.size = s.heap.objs.size + 1 →
      (∀ c o, c ≠ z → c ≠ TO → c ≠ i1 → c ≠ i2 → s.heap.get? c = some o → h'.get? c = some o) → Q (some (.ref s.heap.objs.size)) { s with heap := h' }) :
    wpAny (model prog w) A (pyNext (.ref z)) Q E s := by
  have hT : s.TypeIs (.ref z) "zip" := ⟨_, hz, rfl⟩
  unfold pyNext
  exact wpAny_bind (wpAny_attempt (wpAny_callSpecial?_slot (name := Str.ofString "__next__") hT F.slot_zip_next (wpAny_call_entry F.slot_zip_next hT F.entry_zip_next
    (zip_turn D hz hf hTI hTO h1 h2 hl1 hl2 hx hy fun h' g0 g1 a' b' u1 u2 u3 u4 u5 u6 u7 u8 => wpAny_pure (fin h' g0 g1 a' b' u1 u2 u3 u4 u5 u6 u7 u8)) (F.args_zip_next_1 _))))
theorem next_stop {k1 k2 : Nat} {xs ys : Array Value} {a b : Value} {Q : Option Value → Shared → Prop} (hh : A.handled = none) (D : ZipApart z TI TO i1 i2 l1 l2) (hz : ZAt s.heap z TI TO f0 f1) (hf : Fld f0)
    (hTI : IsPair s.heap TI (.ref i1) (.ref i2)) (hTO : IsPair s.heap TO a b) (h1 : s.heap.IsTupleIter i1 l1 k1) (h2 : s.heap.IsTupleIter i2 l2 k2) (hl1 : s.heap.IsTuple l1 xs) (hl2 : s.heap.IsTuple l2 ys)
    (hend : xs[k1]? = none ∨ ys[k2]? = none) (fin : ∀ h', (∀ c o, c ≠ z → c ≠ TO → c ≠ i1 → c ≠ i2 → s.heap.get? c = some o → h'.get? c = some o) → Q none { s with heap := h' }) : wpAny (model prog w) A (pyNext (.ref z)) Q E s := by
  have hT : s.TypeIs (.ref z) "zip" := ⟨_, hz, rfl⟩
  unfold pyNext
  refine wpAny_bind (wpAny_attempt (wpAny_callSpecial?_slot (name := Str.ofString "__next__") hT F.slot_zip_next (wpAny_call_entry F.slot_zip_next hT F.entry_zip_next
    (zip_stop hh D hz hf hTI hTO h1 h2 hl1 hl2 hend fun h' e hk he => ?_) (F.args_zip_next_1 _))))
  obtain ⟨o, ho, hc⟩ := he
  exact wpAny_bind (wpAny_isInstance (T := "StopIteration") (b := true) ⟨o, ho, hc⟩ isSubtype_stop (wpAny_pure (fin _ hk)))
end
end DnZ
/-! tuple(zip(a, b)): the list that is filled. -/
namespace DnZ
open PySem PySem.Spec PyProof.Rows L2 RZ
/-- the pairs, laid one behind the other -/
def LaidP : Hp → List Addr → List (V × V) → Hp → Prop
  | H, [], [], H' => H' = H
  | H, T :: Ts, p :: ps, H' => H T = none ∧ LaidP (upd H T (.tup [p.1, p.2])) Ts ps H'
  | _, _, _, _ => False
/-- a zip of the tuples at l1, l2, i turns done -/
def ZS (h : Heap) (z TI TO i1 i2 l1 l2 : Addr) (i : Nat) : Prop := ∃ f0 f1 a b, Fld f0 ∧ ZAt h z TI TO f0 f1 ∧ IsPair h TI (.ref i1) (.ref i2) ∧ IsPair h TO a b ∧ h.IsTupleIter i1 l1 i ∧ h.IsTupleIter i2 l2 i
theorem ZS.keep {h h' : Heap} {z TI TO i1 i2 l1 l2 : Addr} {i : Nat} (x : ZS h z TI TO i1 i2 l1 l2 i) (k : ∀ c o, (c = z ∨ c = TI ∨ c = TO ∨ c = i1 ∨ c = i2) → h.get? c = some o → h'.get? c = some o) : ZS h' z TI TO i1 i2 l1 l2 i := by
  obtain ⟨f0, f1, a, b, hf, h1, h2, h3, h4, h5⟩ := x
  exact ⟨f0, f1, a, b, hf, k _ _ (.inl rfl) h1, k _ _ (.inr (.inl rfl)) h2, k _ _ (.inr (.inr (.inl rfl))) h3, h4.at fun o e => k _ o (.inr (.inr (.inr (.inl rfl)))) e, h5.at fun o e => k _ o (.inr (.inr (.inr (.inr rfl)))) e⟩
abbrev LstAt (h : Heap) (S : Addr) (acc : Array Value) (c : Nat) : Prop := h.get? S = some { cls := .type "list", dict := none, data := .seq acc c, slots := #[] }
section
variable {X : Cx} {pins : List (Addr × Obj)} {σ : L2.St} {A : Around} {R : Result → Shared → Prop} {z TI TO i1 i2 l1 l2 S : Addr} {res : Value} {xs ys : List V} {us1 us2 : List Value}
theorem fill (hh : A.handled = none) (D : ZipApart z TI TO i1 i2 l1 l2) (hS : S ∉ [z, TI, TO, i1, i2]) (hS1 : S ≠ l1) (hS2 : S ≠ l2) (rv1 : Vals xs us1) (rv2 : Vals ys us2) (hn : (xs.zip ys).length ≤ sizeLine) :
    ∀ (k i : Nat) (s : Shared) (H : Hp) (acc : Array Value) (c : Nat) (vs : List V), (xs.zip ys).length - i = k → i ≤ (xs.zip ys).length → Inv X pins σ H s → (∀ b ∈ [z, TI, TO, i1, i2], FpOk X pins H b ∧ b < s.heap.objs.size) → FpOk X pins H S →
    ZS s.heap z TI TO i1 i2 l1 l2 i → s.heap.IsTuple l1 us1.toArray → s.heap.IsTuple l2 us2.toArray → LstAt s.heap S acc c → Vals vs acc.toList → acc.size = i →
    (∀ s' H' acc' c' Ts, Inv X pins σ H' s' → LaidP H Ts ((xs.zip ys).drop i) H' → LstAt s'.heap S acc' c' → Vals (vs ++ Ts.map V.ref) acc'.toList → acc'.size = (xs.zip ys).length → FpOk X pins H' S → R (.ok (.ret res)) s') →
    codeAny (model X.prog X.w) A (.builtin "list.extend.loop" ⟨[.ref S, .ref z, res], []⟩) R s := by
  have e1 := rv1.length
  have e2 := rv2.length
  intro k
  induction k with
  | zero =>
    intro i s H acc c vs hk hi I ff fS zs t1 t2 hl rv hz fin
    obtain ⟨f0, f1, a, b, hf, zz, pI, pO, q1, q2⟩ := zs
    have hin : i = (xs.zip ys).length := by omega
    refine codeAny_builtin F.entry_extend_loop ?_
    rw [Around.under_plainId F.plain_extend_loop _]
    show wpAny _ A.in1 (pyNext (.ref z) >>= _) _ _ s
    have hend : us1.toArray[i]? = none ∨ us2.toArray[i]? = none := by
      rw [List.length_zip] at hin
      by_cases h : xs.length ≤ i
      · exact .inl (by simp; omega)
      · exact .inr (by simp; omega)
    refine wpAny_bind (next_stop (show A.in1.handled = none from hh) D zz hf pI pO q1 q2 t1 t2 hend fun h' hk' => ?_)
    have n4 : ∀ cc, cc ∉ [z, TI, TO, i1, i2] → ∀ o, s.heap.get? cc = some o → h'.get? cc = some o := fun cc hc o e => hk' cc o (fun y => hc (by simp [y])) (fun y => hc (by simp [y])) (fun y => hc (by simp [y])) (fun y => hc (by simp [y])) e
    have I2 : Inv X pins σ H { s with heap := h' } := I.turnedL (t' := s.toks) (ch := [z, TI, TO, i1, i2]) (fun cc o hc e => n4 cc hc o e) fun b hb => (ff b hb).1
    have hd : (xs.zip ys).drop i = [] := List.drop_of_length_le (by omega)
    refine wpAny_pure (fin _ H acc c [] I2 (by rw [hd]; rfl) (n4 S hS _ hl) (by simpa using rv) (by omega) fS)
  | succ k ih =>
    intro i s H acc c vs hk hi I ff fS zs t1 t2 hl rv hz fin
    obtain ⟨f0, f1, a, b, hf, zz, pI, pO, q1, q2⟩ := zs
    have hlt : i < (xs.zip ys).length := by omega
    have hlt2 := hlt
    rw [List.length_zip] at hlt2
    obtain ⟨x, hx⟩ : ∃ x, xs[i]? = some x := ⟨_, List.getElem?_eq_getElem (by omega)⟩
    obtain ⟨y, hy⟩ : ∃ y, ys[i]? = some y := ⟨_, List.getElem?_eq_getElem (by omega)⟩
    obtain ⟨u, hu, ru⟩ := rv1.get hx
    obtain ⟨v, hv, rw'⟩ := rv2.get hy
    have hd : (xs.zip ys).drop i = (x, y) :: (xs.zip ys).drop (i + 1) := by
      have : (xs.zip ys)[i]? = some (x, y) := by rw [List.getElem?_zip_eq_some]; exact ⟨hx, hy⟩
      rw [List.drop_eq_getElem_cons hlt]
      congr 1
      rw [List.getElem?_eq_getElem hlt] at this
      exact Option.some.inj this
    refine codeAny_builtin F.entry_extend_loop ?_
    rw [Around.under_plainId F.plain_extend_loop _]
    show wpAny _ A.in1 (pyNext (.ref z) >>= _) _ _ s
    refine wpAny_bind (next_turn (x := u) (y := v) D zz hf pI pO q1 q2 t1 t2 (by simpa using hu) (by simpa using hv) fun h' g0 g1 a' b' hg zg pO' j1 j2 new sz hk' => ?_)
    have n4 : ∀ cc, cc ∉ [z, TI, TO, i1, i2] → ∀ o, s.heap.get? cc = some o → h'.get? cc = some o := fun cc hc o e => hk' cc o (fun y => hc (by simp [y])) (fun y => hc (by simp [y])) (fun y => hc (by simp [y])) (fun y => hc (by simp [y])) e
    have ob : ObjOk X.prog X.w (upd H s.heap.objs.size (.tup [x, y])) h' s.heap.objs.size (.tup [x, y]) := ⟨by show 2 ≤ sizeLine; decide, [u, v], .cons ru (.cons rw' .nil), ⟨_, new, rfl, _, rfl⟩⟩
    have I2 : Inv X pins σ (upd H s.heap.objs.size (.tup [x, y])) { s with heap := h' } := I.turnedNew (t' := s.toks) (ch := [z, TI, TO, i1, i2]) (fun cc o hc e => n4 cc hc o e) (fun b hb => (ff b hb).1) (Nat.le_refl _) ob
    have lS : LstAt h' S acc c := n4 S hS _ hl
    have Slt : S < s.heap.objs.size := Heap.lt_size hl
    have fS2 : FpOk X pins (upd H s.heap.objs.size (.tup [x, y])) S := ⟨by rw [upd_ne (Nat.ne_of_lt Slt)]; exact fS.1, fS.2⟩
    show wpAny _ A.in1 (updateSeq S (·.push (.ref s.heap.objs.size)) >>= _) _ _ _
    have hcard : acc.size < sizeLine := by omega
    refine wpAny_bind (wpAny_updateSeq (s := { s with heap := h' }) lS rfl (wpAny_pure ⟨plainId_quiet F.plain_extend_loop _, ?_⟩) (by omega) (by show (acc.push _).size ≤ sizeLine + 1; rw [Array.size_push]; omega))
    have oth : ∀ cc, cc ≠ S → (h'.update S (Obj.mapSeq (·.push (.ref s.heap.objs.size)))).get? cc = h'.get? cc := fun cc hc => Heap.get?_update_other _ _ (Ne.symm hc)
    have I3 : Inv X pins σ (upd H s.heap.objs.size (.tup [x, y])) { s with heap := h'.update S (Obj.mapSeq (·.push (.ref s.heap.objs.size))) } :=
      Inv.turned (s := { s with heap := h' }) (t' := s.toks) (it := S) I2 (fun cc o hc e => (oth cc hc).trans e) fS2.1 fS2.2.1 fS2.2.2.2.1 fS2.2.2.2.2.1 fS2.2.2.2.2.2
    have lt2 : ∀ b, b < s.heap.objs.size → b < (h'.update S (Obj.mapSeq (·.push (.ref s.heap.objs.size)))).objs.size := fun b hb => by
      have : (h'.update S (Obj.mapSeq (·.push (.ref s.heap.objs.size)))).objs.size = h'.objs.size := (Heap.SameBut.update ..).1
      omega
    have aw : ∀ b ∈ [z, TI, TO, i1, i2], b ≠ S := fun b hb e => hS (e ▸ hb)
    refine ih (i + 1) _ (upd H s.heap.objs.size (.tup [x, y])) (acc.push (.ref s.heap.objs.size)) _ (vs ++ [V.ref s.heap.objs.size]) (by omega) hlt I3 (fun b hb => ⟨⟨by rw [upd_ne (Nat.ne_of_lt (ff b hb).2)]; exact (ff b hb).1.1, (ff b hb).1.2⟩, lt2 b (ff b hb).2⟩) fS2 ?_ ?_ ?_ (Heap.get?_update_self (Obj.mapSeq (·.push (.ref s.heap.objs.size))) lS rfl) ?_ ?_ ?_
    · have zs' : ZS h' z TI TO i1 i2 l1 l2 (i + 1) := ⟨g0, g1, a', b', hg, zg, hk' _ _ D.TIz D.TITO D.TIi1 D.TIi2 pI, pO', j1, j2⟩
      refine zs'.keep fun cc o hc e => (oth cc (aw cc ?_)).trans e
      simpa using hc
    · obtain ⟨o, ho, hr⟩ := t1
      exact ⟨o, (oth _ (Ne.symm hS1)).trans (hk' _ _ D.l1z D.l1TO D.l1i1 D.l1i2 ho), hr⟩
    · obtain ⟨o, ho, hr⟩ := t2
      exact ⟨o, (oth _ (Ne.symm hS2)).trans (hk' _ _ D.l2z D.l2TO D.l2i1 D.l2i2 ho), hr⟩
    · rw [Array.toList_push]; exact rv.append (.cons rfl .nil)
    · rw [Array.size_push]; omega
    · intro s' H' acc' c' Ts J lp la va za fs
      refine fin s' H' acc' c' (s.heap.objs.size :: Ts) J (by rw [hd]; exact ⟨I.hok.fresh (Nat.le_refl _), lp⟩) la ?_ za fs
      rw [List.append_assoc] at va
      exact va
end
end DnZ
/-! tuple(zip(a, b)): collected, then a tuple. -/
namespace DnZ
open PySem PySem.Spec PyProof.Rows L2 RZ
theorem zip_no_len : typeLookup (.type "zip") "__len__" = pure none := by rw [typeLookup_type, builtinLookup_eq_fast]; kernel_rfl
theorem zip_no_hint : typeLookup (.type "zip") "__length_hint__" = pure none := by rw [typeLookup_type, builtinLookup_eq_fast]; kernel_rfl
section
variable {X : Cx} {pins : List (Addr × Obj)} {σ : L2.St} {A : Around} {E : Value → Shared → Prop} {z TI TO i1 i2 l1 l2 : Addr} {xs ys : List V} {us1 us2 : List Value} {s : Shared} {H : Hp}
theorem collected {Q : List Value → Shared → Prop} (hh : A.handled = none) (D : ZipApart z TI TO i1 i2 l1 l2) (rv1 : Vals xs us1) (rv2 : Vals ys us2) (hn : (xs.zip ys).length ≤ sizeLine)
    (I : Inv X pins σ H s) (ff : ∀ b ∈ [z, TI, TO, i1, i2], FpOk X pins H b ∧ b < s.heap.objs.size) (hz0 : IsZip s.heap z TI TO .none) (zs : ZS s.heap z TI TO i1 i2 l1 l2 0) (t1 : s.heap.IsTuple l1 us1.toArray) (t2 : s.heap.IsTuple l2 us2.toArray)
    (fin : ∀ s' H' (acc : Array Value) Ts, Inv X pins σ H' s' → LaidP H Ts (xs.zip ys) H' → Vals (Ts.map V.ref) acc.toList → acc.size = (xs.zip ys).length → Q acc.toList s') :
    wpAny (model X.prog X.w) A (collect (.ref z)) Q E s := by
  have zS : s.heap.objs.size ∉ [z, TI, TO, i1, i2] := fun m => Nat.lt_irrefl _ (ff _ m).2
  have nz : s.heap.objs.size ≠ z := fun e => zS (by simp [e])
  have hT : ∀ {h : Heap} {g d t o}, ZS h z TI TO i1 i2 l1 l2 0 → (⟨h, g, d, t, o⟩ : Shared).TypeIs (.ref z) "zip" := fun {h g d t o} x => by
    obtain ⟨f0, f1, a, b, hf, h1, _⟩ := x
    exact ⟨_, h1, rfl⟩
  obtain ⟨hp, g, d, tk, os⟩ := s
  unfold collect
  refine wpAny_bind (wpAny_runValue (codeAny_builtin F.entry_proto_collect ?_))
  rw [Around.under_plainId F.plain_proto_collect _]
  show wpAny _ A.in1 (newList [] >>= fun l => again (.builtin "list.__iadd__" ⟨[l, .ref z], []⟩)) _ _ _
  refine wpAny_bind (wpAny_newObj_type (wpAny_pure ⟨plainId_quiet F.plain_list_iadd _, codeAny_builtin F.entry_list_iadd ?_⟩))
  rw [Around.under_plainId F.plain_list_iadd _]
  have kp : ∀ b o, hp.get? b = some o → (hp.push { cls := .type "list", data := .seq ([] : List Value).toArray }).get? b = some o := fun b o e => Heap.get?_push_of_some _ e
  have zs1 : ZS (hp.push { cls := .type "list", data := .seq ([] : List Value).toArray }) z TI TO i1 i2 l1 l2 0 := zs.keep fun c o _ e => kp c o e
  show wpAny _ A.in1 (Builtin.List.listExtendWith (.ref hp.objs.size) (.ref z) (.ref hp.objs.size)) _ _ _
  unfold Builtin.List.listExtendWith
  refine wpAny_bind (wpAny_typeOf (hT zs1) ?_)
  have b1 : Builtin.List.listSameRef (.ref hp.objs.size) (.ref z) = false := by
    simp [Builtin.List.listSameRef]
    exact nz
  have b2 : (Value.type "zip" == Value.type "list") = false := by decide
  have b3 : (Value.type "zip" == Value.type "tuple") = false := by decide
  simp only [b1, b2, b3, Bool.or_false, Bool.false_eq_true, if_false]
  refine wpAny_bind (wpAny_pyIter_zip (TI := TI) (TO := TO) (f0 := .none) (kp _ _ hz0) (wpAny_bind (wpAny_holding ?_)))
  unfold Builtin.List.listLengthHint
  refine wpAny_bind (wpAny_specialOf (hT zs1) zip_no_len ?_)
  show wpAny _ A.in1 (specialOf (Value.ref z) (Str.ofString "__length_hint__") >>= _) _ _ _
  refine wpAny_bind (wpAny_specialOf (hT zs1) zip_no_hint (wpAny_pure ?_))
  show wpAny _ A.in1 (rule "list.extend.makes-room" >>= fun _ => Builtin.List.listTouch (.ref hp.objs.size) >>= fun _ => again (.builtin "list.extend.loop" ⟨[.ref hp.objs.size, .ref z, .ref hp.objs.size], []⟩)) _ _ _
  refine wpAny_bind (wpAny_rule (wpAny_bind ?_))
  have S1 : (hp.push { cls := .type "list", data := .seq ([] : List Value).toArray }).get? hp.objs.size = some { cls := .type "list", data := .seq ([] : List Value).toArray } := Heap.get?_push_size _ rfl
  show wpAny _ A.in1 (updateSeq hp.objs.size (·.push .none) >>= fun _ => updateSeq hp.objs.size (·.pop)) _ _ _
  have S2 := Heap.get?_update_self (Obj.mapSeq (·.push Value.none)) S1 rfl
  refine wpAny_bind (wpAny_updateSeq S1 rfl (wpAny_updateSeq S2 rfl ?_))
  have S3 := Heap.get?_update_self (Obj.mapSeq (·.pop)) S2 rfl
  have oth : ∀ b o, b ≠ hp.objs.size → hp.get? b = some o → (((hp.push { cls := .type "list", data := .seq ([] : List Value).toArray }).update hp.objs.size (Obj.mapSeq (·.push Value.none))).update hp.objs.size (Obj.mapSeq (·.pop))).get? b = some o :=
    fun b o hb e => (Heap.get?_update_other _ _ (Ne.symm hb)).trans ((Heap.get?_update_other _ _ (Ne.symm hb)).trans (kp b o e))
  have lt : ∀ {b o}, hp.get? b = some o → b ≠ hp.objs.size := fun {b o} e => Nat.ne_of_lt (Heap.lt_size e)
  have kk : ∀ b o, hp.get? b = some o → (((hp.push { cls := .type "list", data := .seq ([] : List Value).toArray }).update hp.objs.size (Obj.mapSeq (·.push Value.none))).update hp.objs.size (Obj.mapSeq (·.pop))).get? b = some o := fun b o e => oth b o (lt e) e
  have szz : hp.objs.size < (((hp.push { cls := .type "list", data := .seq ([] : List Value).toArray }).update hp.objs.size (Obj.mapSeq (·.push Value.none))).update hp.objs.size (Obj.mapSeq (·.pop))).objs.size := Heap.lt_size S3
  have I2 : Inv X pins σ H { (⟨hp, g, d, tk, os⟩ : Shared) with heap := ((hp.push { cls := .type "list", data := .seq ([] : List Value).toArray }).update hp.objs.size (Obj.mapSeq (·.push Value.none))).update hp.objs.size (Obj.mapSeq (·.pop)) } := I.kept (t' := tk) kk
  have fS : FpOk X pins H hp.objs.size := I.fpOk (Nat.le_refl _) (I.hok.fresh (Nat.le_refl _))
  have n1 : hp.objs.size ≠ l1 := fun e => by obtain ⟨o, ho, _⟩ := t1; exact lt ho e.symm
  have n2 : hp.objs.size ≠ l2 := fun e => by obtain ⟨o, ho, _⟩ := t2; exact lt ho e.symm
  have u1 : Heap.IsTuple (((hp.push { cls := .type "list", data := .seq ([] : List Value).toArray }).update hp.objs.size (Obj.mapSeq (·.push Value.none))).update hp.objs.size (Obj.mapSeq (·.pop))) l1 us1.toArray := by
    obtain ⟨o, ho, r⟩ := t1; exact ⟨o, kk _ _ ho, r⟩
  have u2 : Heap.IsTuple (((hp.push { cls := .type "list", data := .seq ([] : List Value).toArray }).update hp.objs.size (Obj.mapSeq (·.push Value.none))).update hp.objs.size (Obj.mapSeq (·.pop))) l2 us2.toArray := by
    obtain ⟨o, ho, r⟩ := t2; exact ⟨o, kk _ _ ho, r⟩
  refine wpAny_pure ⟨plainId_quiet F.plain_extend_loop _, fill (A := A) hh D zS n1 n2 rv1 rv2 hn _ 0 _ H _ _ [] rfl (Nat.zero_le _) I2 (fun b hb => ⟨(ff b hb).1, Nat.lt_trans (ff b hb).2 szz⟩) fS (zs.keep fun c o _ e => kk c o e) u1 u2 S3 .nil rfl
    fun s' H' acc' c' Ts J lp la va za fs => ?_⟩
  show wpAny _ A (load hp.objs.size >>= _) _ _ s'
  exact wpAny_bind (wpAny_load la (wpAny_pure (fin s' H' acc' Ts J (by simpa using lp) (by simpa using va) za)))
/-- tuple(z) -/
theorem tuple_new {Q : Value → Shared → Prop} (hh : A.handled = none) (D : ZipApart z TI TO i1 i2 l1 l2) (rv1 : Vals xs us1) (rv2 : Vals ys us2) (hn : (xs.zip ys).length ≤ sizeLine)
    (I : Inv X pins σ H s) (ff : ∀ b ∈ [z, TI, TO, i1, i2], FpOk X pins H b ∧ b < s.heap.objs.size) (hz0 : IsZip s.heap z TI TO .none) (zs : ZS s.heap z TI TO i1 i2 l1 l2 0) (t1 : s.heap.IsTuple l1 us1.toArray) (t2 : s.heap.IsTuple l2 us2.toArray)
    (fin : ∀ s' H' (acc : Array Value) Ts, Inv X pins σ H' s' → LaidP H Ts (xs.zip ys) H' → Vals (Ts.map V.ref) acc.toList → acc.size = (xs.zip ys).length →
      Q (.ref s'.heap.objs.size) { s' with heap := s'.heap.push { cls := .type "tuple", data := .seq acc } }) :
    codeAny (model X.prog X.w) A (.call (.builtin "tuple.__new__") ⟨[.type "tuple", .ref z], []⟩) (wants Q E) s := by
  refine codeAny_of_tree ?_
  show wpAny _ A.in1 (do checkBuiltinCall "tuple.__new__" ⟨[.type "tuple", .ref z], []⟩; again (.builtin "tuple.__new__" ⟨[.type "tuple", .ref z], []⟩)) _ _ s
  refine wpAny_bind (wpAny_of_eq (F.newCall_tuple_1 _) (wpAny_pure ⟨plainId_quiet F.plain_tuple_new _, codeAny_builtin F.entry_tuple_new ?_⟩))
  rw [Around.under_plainId F.plain_tuple_new _]
  have a1 := sub_tuple_self
  have a2 := init_tuple_lookup
  have a3 := madeHere_tuple
  have a4 : s.TypeIs (.ref z) "zip" := ⟨_, hz0, rfl⟩
  wp_walk using wpAny_typeOf a4, collected (A := A.in1) (X := X) (pins := pins) (σ := σ) (H := H) (show A.in1.handled = none from hh) D rv1 rv2 hn I ff hz0 zs t1 t2
  intro s' H' acc Ts J lp va za
  show wpAny _ _ (Builtin.Tuple.tupleExact acc.toList.toArray >>= fun v => ret v) _ _ _
  unfold Builtin.Tuple.tupleExact
  have e : acc.toList.toArray = acc := by simp
  rw [e]
  exact wpAny_bind (wpAny_newObj_type (wpAny_pure (fin s' H' acc Ts J lp va za)) (by show acc.size ≤ sizeLine; omega))
theorem tuple_of_zip {Q : Value → Shared → Prop} (hh : A.handled = none) (D : ZipApart z TI TO i1 i2 l1 l2) (rv1 : Vals xs us1) (rv2 : Vals ys us2) (hn : (xs.zip ys).length ≤ sizeLine)
    (I : Inv X pins σ H s) (ff : ∀ b ∈ [z, TI, TO, i1, i2], FpOk X pins H b ∧ b < s.heap.objs.size) (hz0 : IsZip s.heap z TI TO .none) (zs : ZS s.heap z TI TO i1 i2 l1 l2 0) (t1 : s.heap.IsTuple l1 us1.toArray) (t2 : s.heap.IsTuple l2 us2.toArray)
    (fin : ∀ s' H' (acc : Array Value) Ts, Inv X pins σ H' s' → LaidP H Ts (xs.zip ys) H' → Vals (Ts.map V.ref) acc.toList → acc.size = (xs.zip ys).length →
      Q (.ref s'.heap.objs.size) { s' with heap := s'.heap.push { cls := .type "tuple", data := .seq acc } }) :
    wpAny (model X.prog X.w) A (call (.type "tuple") [.ref z]) Q E s := by
  refine callType_codes (Q₁ := fun obj s₁ => s₁.TypeIs obj "tuple" ∧ Q obj s₁) F.called_tuple (F.typeCall_tuple_1 _) F.entry_object_init
    (tuple_new (A := A.in1) (show A.in1.handled = none from hh) D rv1 rv2 hn I ff hz0 zs t1 t2 fun s' H' acc Ts J lp va za => ⟨⟨_, Heap.get?_push_size _ rfl, rfl⟩, fin s' H' acc Ts J lp va za⟩) fun obj s1 h1 => ?_
  exact ⟨h1.1, F.args_object_init_2 obj _, object_init_meets F.called_tuple.init.lookup F.called_tuple.made (by decide) X.prog X.w A.in1 _ s1 ⟨h1.1, rfl, h1.2⟩⟩
end
end DnZ
/-! tuple(zip(a, b)): the reading, then what it comes to over data. -/
namespace DnZ
open PySem PySem.Spec PyProof.Rows L2 RZ
def tTZ (K : PySem.W.Frag) (ta : TA) : TE := fun σ H Q => ta σ H fun vs H1 => ∃ a b xs ys, vs = [.ref a, .ref b] ∧ SqT K H1 a xs ∧ SqT K H1 b ys ∧ (xs.zip ys).length ≤ sizeLine ∧
  ∀ (Ts : List Addr) (H2 : Hp) (p : Addr), LaidP H1 Ts (xs.zip ys) H2 → H2 p = none → Q (.ref p) (upd H2 p (.tup (Ts.map V.ref)))
theorem pe_tupZip {X : Cx} {e e2 : PySem.Expr} {ta : TA} {p1 p2 q1 q2 : Pos} (hc : X.calm = true) (hg : Gl X "tuple") (hm : X.mg "tuple" = none) (hv : bootBuiltins "tuple" = some (.type "tuple")) (hg2 : Gl X "zip") (hm2 : X.mg "zip" = none) (ha : PA X [e, e2] ta)
    (hs : starEach [e, e2] X.env = (false, eval e X.env) :: starEach [e2] X.env := by rfl) (hpl : (backTo q2 (starEach [e2] X.env)).any (·.1) = false := by rfl)
    (hs2 : starEach [.Call (.Name "zip" p2) [e, e2] [] q2] X.env = (false, eval (.Call (.Name "zip" p2) [e, e2] [] q2) X.env) :: starEach [] X.env := by rfl) (hpl2 : (backTo q1 (starEach [] X.env)).any (·.1) = false := by rfl) :
    PE X (.Call (.Name "tuple" p1) [.Call (.Name "zip" p2) [e, e2] [] q2] [] q1) (tTZ X.K ta) := by
  refine ⟨fun pins s σ H Q I h => ?_⟩
  refine wpAny_Call_Name_kw (ld_blt I hg hm hv ?_)
  refine PyProof.Rows.callWith_type1 ?_ hs2 hpl2
  rw [hs2]
  show wpAny _ _ (spliced ((false, eval (.Call (.Name "zip" p2) [e, e2] [] q2) X.env) :: backTo q1 (starEach [] X.env))) _ _ s
  refine Calls.spliced_cons (wpAny_Call_Name_kw (ld_blt I hg2 hm2 PyProof.Rows.boot_zip (PyProof.Rows.callWith_type1 (thn (ha.run q2 pins s σ H _ I h) fun us s1 r1 => ?_) hs hpl)))
  obtain ⟨vs, H1, I1, rr, a, b, xs, ys, ev, hqx, hqy, hn, q⟩ := r1
  subst ev
  cases rr with
  | cons r rr =>
    cases rr with
    | cons r' rr =>
      cases rr
      cases r
      cases r'
      have fresh : ∀ c, s1.heap.objs.size ≤ c → FpOk X pins H1 c := fun c hle => I1.fpOk hle (I1.hok.fresh hle)
      obtain ⟨its, rv, t1, _⟩ := I1.tuple hqx
      obtain ⟨its2, rv2, t2, _⟩ := I1.tuple hqy
      obtain ⟨o1, ho1, _⟩ := id t1
      obtain ⟨o2, ho2, _⟩ := id t2
      refine call_zipT (show s1.heap.IsTuple a its.toArray from t1) (show s1.heap.IsTuple b its2.toArray from t2) fun h' hz hTI hTO j1 j2 hsz hk => Calls.spliced_nil ?_
      have I2 : Inv X pins σ H1 { s1 with heap := h' } := I1.kept (t' := s1.toks) hk
      have u1 : h'.IsTuple a its.toArray := by obtain ⟨o, ho, r⟩ := t1; exact ⟨o, hk _ _ ho, r⟩
      have u2 : h'.IsTuple b its2.toArray := by obtain ⟨o, ho, r⟩ := t2; exact ⟨o, hk _ _ ho, r⟩
      refine tuple_of_zip (X := X) (pins := pins) (σ := σ) (H := H1) (s := { s1 with heap := h' }) (I.ok.hd hc) (PySem.W.ktu_apart s1.heap.objs.size a b (Heap.lt_size ho1) (Heap.lt_size ho2)) rv rv2 hn I2 (fun c hcm => ?_) hz ⟨_, _, _, _, .inl rfl, hz, hTI, hTO, j1, j2⟩ u1 u2 fun s' H' acc Ts J lp va za => ?_
      · have e' : c = s1.heap.objs.size + 4 ∨ c = s1.heap.objs.size + 2 ∨ c = s1.heap.objs.size + 3 ∨ c = s1.heap.objs.size ∨ c = s1.heap.objs.size + 1 := by simpa using hcm
        have two : s1.heap.objs.size ≤ c ∧ c < s1.heap.objs.size + 5 := by
          rcases e' with z | z | z | z | z
          · rw [z]; exact ⟨Nat.le_add_right _ _, Nat.add_lt_add_left (by decide) _⟩
          · rw [z]; exact ⟨Nat.le_add_right _ _, Nat.add_lt_add_left (by decide) _⟩
          · rw [z]; exact ⟨Nat.le_add_right _ _, Nat.add_lt_add_left (by decide) _⟩
          · rw [z]; exact ⟨Nat.le_refl _, Nat.lt_add_of_pos_right (by decide)⟩
          · rw [z]; exact ⟨Nat.le_add_right _ _, Nat.add_lt_add_left (by decide) _⟩
        exact ⟨fresh c two.1, by show c < h'.objs.size; rw [hsz]; exact two.2⟩
      · have hz' : acc.size ≤ sizeLine := by omega
        have np : H' s'.heap.objs.size = none := J.hok.fresh (Nat.le_refl _)
        have J2 : Inv X pins σ (upd H' s'.heap.objs.size (.tup (Ts.map V.ref))) { s' with heap := s'.heap.push { cls := .type "tuple", data := .seq acc } } :=
          J.laid (t' := s'.toks) (fun b u e => Heap.get?_push_of_some _ e) (Nat.le_refl _) ⟨by rw [va.length, Array.length_toList]; exact hz', acc.toList, va, ⟨_, Heap.get?_push_size _ rfl, rfl, 0, by simp⟩⟩
        exact ⟨.ref s'.heap.objs.size, _, J2, rfl, q Ts H' _ lp np⟩
end DnZ
/-! tuple(zip(a, b)) over data. -/
namespace Dn
open PySem PySem.Spec PyProof.Rows L2 DnZ
variable {K : PySem.W.Frag}
def rTZ (K : PySem.W.Frag) : List V → Hp → VK → Prop := fun vs H1 Q => ∃ a b xs ys, vs = [.ref a, .ref b] ∧ SqT K H1 a xs ∧ SqT K H1 b ys ∧ (xs.zip ys).length ≤ sizeLine ∧
  ∀ (Ts : List Addr) (H2 : Hp) (p : Addr), LaidP H1 Ts (xs.zip ys) H2 → H2 p = none → Q (.ref p) (upd H2 p (.tup (Ts.map V.ref)))
def pairT (p : D × D) : D := .tup [p.1, p.2]
def zipTG : List D → Option D
  | [.tup xs, .tup ys] => some (.tup ((xs.zip ys).map pairT))
  | _ => none
theorem laid_rep {Lv : Addr → Prop} : ∀ {Ts : List Addr} {ps : List (D × D)} {ws : List (V × V)} {H H2 : Hp}, ps.length = ws.length → (∀ (i : Nat) (p : D × D) (w : V × V), ps[i]? = some p → ws[i]? = some w → Rep K H Lv p.1 w.1 ∧ Rep K H Lv p.2 w.2) → LaidP H Ts ws H2 →
    Grow H H2 ∧ RepL K H2 Lv (ps.map pairT) (Ts.map V.ref)
  | [], [], [], H, H2, _, _, h => by
    have h : H2 = H := h
    subst h
    exact ⟨Grow.refl, rfl⟩
  | T :: Ts, p :: ps, w :: ws, H, H2, hl, hr, h => by
    obtain ⟨h0, h⟩ := h
    have g1 : Grow H (upd H T (.tup [w.1, w.2])) := Grow.upd h0
    have r0 := hr 0 p w rfl rfl
    obtain ⟨g2, r2⟩ := laid_rep (ps := ps) (by simpa using hl) (fun i q u e1 e2 => ⟨Rep.mono g1.keep _ _ (hr (i + 1) q u (by simpa using e1) (by simpa using e2)).1, Rep.mono g1.keep _ _ (hr (i + 1) q u (by simpa using e1) (by simpa using e2)).2⟩) h
    have rT : Rep K (upd H T (.tup [w.1, w.2])) Lv (pairT p) (.ref T) := ⟨T, [w.1, w.2], rfl, upd_same, by show 2 ≤ sizeLine; decide, w.1, [w.2], rfl, Rep.mono g1.keep _ _ r0.1, w.2, [], rfl, Rep.mono g1.keep _ _ r0.2, rfl⟩
    exact ⟨g1.trans g2, .ref T, Ts.map V.ref, rfl, Rep.mono g2.keep _ _ rT, r2⟩
  | [], [], _ :: _, _, _, hl, _, _ => by cases hl
  | [], _ :: _, [], _, _, hl, _, _ => by cases hl
  | [], _ :: _, _ :: _, _, _, _, _, h => h.elim
  | _ :: _, [], [], _, _, _, _, h => h.elim
  | _ :: _, [], _ :: _, _, _, hl, _, _ => by cases hl
  | _ :: _, _ :: _, [], _, _, hl, _, _ => by cases hl
theorem RepL.at {H : Hp} {Lv : Addr → Prop} : ∀ {ds : List D} {vs : List V} {i : Nat} {d : D} {v : V}, RepL K H Lv ds vs → ds[i]? = some d → vs[i]? = some v → Rep K H Lv d v
  | [], _, _, _, _, _, e, _ => by cases e
  | d :: ds, vs, 0, _, _, ⟨v, ws, e, r, h⟩, e1, e2 => by subst e; cases e1; cases e2; exact r
  | d :: ds, vs, i + 1, _, _, ⟨v, ws, e, r, h⟩, e1, e2 => by subst e; exact RepL.at h (by simpa using e1) (by simpa using e2)
theorem ok_tupZip : OkN K (rTZ K) zipTG := fun H Lv vs ds c Q mu rr ec q => by
  unfold zipTG at ec
  split at ec
  · rename_i xs ys
    cases ec
    obtain ⟨v1, us, rfl, r1, v2, us2, rfl, r2, e⟩ := rr
    cases e
    obtain ⟨a, ws1, rfl, h1, z1, l1⟩ := r1
    obtain ⟨b, ws2, rfl, h2, z2, l2⟩ := r2
    have e1 := l1.length
    have e2 := l2.length
    refine ⟨a, b, ws1, ws2, rfl, .inl (.inl h1), .inl (.inl h2), by rw [List.length_zip]; omega, fun Ts H2 p lp np => ?_⟩
    obtain ⟨g, r⟩ := laid_rep (K := K) (Lv := Lv) (ps := xs.zip ys) (by rw [List.length_zip, List.length_zip, e1, e2]) (fun i u w k1 k2 => by
      rw [List.getElem?_zip_eq_some] at k1 k2
      exact ⟨RepL.at l1 k1.1 k2.1, RepL.at l2 k1.2 k2.2⟩) lp
    have g3 : Grow H2 (upd H2 p (.tup (Ts.map V.ref))) := Grow.upd np
    exact q (.ref p) _ (g.trans g3) ⟨p, _, rfl, upd_same, by rw [List.length_map, List.length_zip]; omega, r.mono g3.keep⟩
  · cases ec
section
variable {ι : Type} {X : ι → Cx} {Wf : ι → WX} {n : Nat} {P : Nat → Bool}
theorem de_tupZip {e e2 : PySem.Expr} {f : En → Out (List AR)} {p1 p2 q1 q2 : Pos} (hK : ∀ i, (X i).K = K) (hc : ∀ i, (X i).calm = true) (hg : ∀ i, Gl (X i) "tuple") (hm : ∀ i, (X i).mg "tuple" = none) (hv : bootBuiltins "tuple" = some (.type "tuple")) (hg2 : ∀ i, Gl (X i) "zip") (hm2 : ∀ i, (X i).mg "zip" = none) (ha : DAs X Wf K n P [e, e2] f)
    (hs : ∀ i, starEach [e, e2] (X i).env = (false, eval e (X i).env) :: starEach [e2] (X i).env := by intro _; rfl) (hpl : ∀ i, (backTo q2 (starEach [e2] (X i).env)).any (·.1) = false := by intro _; rfl)
    (hs2 : ∀ i, starEach [.Call (.Name "zip" p2) [e, e2] [] q2] (X i).env = (false, eval (.Call (.Name "zip" p2) [e, e2] [] q2) (X i).env) :: starEach [] (X i).env := by intro _; rfl) (hpl2 : ∀ i, (backTo q1 (starEach [] (X i).env)).any (·.1) = false := by intro _; rfl) :
    DE X Wf K n P (.Call (.Name "tuple" p1) [.Call (.Name "zip" p2) [e, e2] [] q2] [] q1) (opN zipTG f) :=
  de_opN ok_tupZip ha fun i t p => by
    have := pe_tupZip (p1 := p1) (p2 := p2) (q1 := q1) (q2 := q2) (hc i) (hg i) (hm i) hv (hg2 i) (hm2 i) p (hs i) (hpl i) (hs2 i) (hpl2 i)
    rw [hK i] at this
    exact this
end
end Dn
/-! x in (.., ..) where the items are tuples or lists. -/
namespace Dn
open PySem PySem.Spec PyProof.Rows L2
section
variable {X : Cx}
def rInT (K : PySem.W.Frag) (neg : Bool) : R2 := fun x y H Q => ∃ d ds, Dp K H x d ∧ Dp K H y (.tuple ds) ∧ SeqAt.shaped d = true ∧ SeqAt.shaped (.tuple ds) = true ∧ Q (.bl (if neg = true then !(ds.any fun z => PyData.eqv z d) else ds.any fun z => PyData.eqv z d)) H
theorem op_inT (hu : X.A.units + 65 < cLine) : OpR X (compareOp .In) (rInT X.K false) := by
  intro pins s σ H x y v u Q I rx ry h
  obtain ⟨d, ds, hd, he, sd, se, q⟩ := h
  obtain ⟨as, r1⟩ := Dp.reads I d x v hd rx
  obtain ⟨bs, r2⟩ := Dp.reads I (.tuple ds) y u he ry
  exact SeqAt.in_tuple_reads r2 r1 (SeqAt.canLay_of_shaped se) (SeqAt.canLay_of_shaped sd) (room_in_shaped sd hu) ⟨.bl _, H, I, rfl, q⟩
theorem op_notInT (hu : X.A.units + 65 < cLine) : OpR X (compareOp .NotIn) (rInT X.K true) := by
  intro pins s σ H x y v u Q I rx ry h
  obtain ⟨d, ds, hd, he, sd, se, q⟩ := h
  obtain ⟨as, r1⟩ := Dp.reads I d x v hd rx
  obtain ⟨bs, r2⟩ := Dp.reads I (.tuple ds) y u he ry
  exact SeqAt.notIn_tuple_reads r2 r1 (SeqAt.canLay_of_shaped se) (SeqAt.canLay_of_shaped sd) (room_in_shaped sd hu) ⟨.bl _, H, I, rfl, q⟩
theorem op_inTr {k : Nat} (hr : Room k X.A) : OpR X (compareOp .In) (rInT X.K false) := op_inT (by have := hr.un; omega)
theorem op_notInTr {k : Nat} (hr : Room k X.A) : OpR X (compareOp .NotIn) (rInT X.K true) := op_notInT (by have := hr.un; omega)
end
section
variable {K : PySem.W.Frag}
def inTB (d e : D) : Option Bool := match toP d, toP e with
  | some p, some (.tuple ps) => if SeqAt.shaped p = true ∧ SeqAt.shaped (.tuple ps) = true then some (ps.any fun z => PyData.eqv z p) else none
  | _, _ => none
def inTD (d e : D) : Option D := (inTB d e).map .bl
def notInTD (d e : D) : Option D := (inTB d e).map fun b => .bl (!b)
theorem inTB_ok {d e : D} {b : Bool} (h : inTB d e = some b) : ∃ p ps, toP d = some p ∧ toP e = some (.tuple ps) ∧ SeqAt.shaped p = true ∧ SeqAt.shaped (.tuple ps) = true ∧ b = ps.any fun z => PyData.eqv z p := by
  unfold inTB at h
  split at h
  · rename_i p ps e1 e2
    by_cases z : SeqAt.shaped p = true ∧ SeqAt.shaped (.tuple ps) = true
    · rw [if_pos z] at h; cases h; exact ⟨p, ps, e1, e2, z.1, z.2, rfl⟩
    · rw [if_neg z] at h; cases h
  · cases h
theorem ok_inTD : Ok2 K (rInT K false) inTD := fun H Lv x y d e c Q mu r1 r2 ec q => by
  unfold inTD at ec
  cases z : inTB d e with
  | none => rw [z] at ec; cases ec
  | some b =>
    rw [z] at ec
    cases ec
    obtain ⟨p, ps, e1, e2, s1, s2, rfl⟩ := inTB_ok z
    exact ⟨p, ps, toP_okR r1 e1, toP_okR r2 e2, s1, s2, q _ H Grow.refl rfl⟩
theorem ok_notInTD : Ok2 K (rInT K true) notInTD := fun H Lv x y d e c Q mu r1 r2 ec q => by
  unfold notInTD at ec
  cases z : inTB d e with
  | none => rw [z] at ec; cases ec
  | some b =>
    rw [z] at ec
    cases ec
    obtain ⟨p, ps, e1, e2, s1, s2, rfl⟩ := inTB_ok z
    exact ⟨p, ps, toP_okR r1 e1, toP_okR r2 e2, s1, s2, q _ H Grow.refl rfl⟩
end
/-! rows of whole numbers: == and in, worked out -/
theorem toPs_ints (l : List Int) : toPs (l.map D.int) = some (l.map PyData.int) := by
  induction l with
  | nil => rfl
  | cons x l ih => rw [List.map_cons, toPs, ih]; rfl
theorem toP_ints (l : List Int) : toP (.tup (l.map D.int)) = some (.tuple (l.map PyData.int)) := by rw [toP, toPs_ints]; rfl
theorem toP_intsL (l : List Int) : toP (.lst (l.map D.int)) = some (.list (l.map PyData.int)) := by rw [toP, toPs_ints]; rfl
theorem lay_ints (l : List Int) : PyData.canLayAll0 (l.map PyData.int) = true := by
  induction l with
  | nil => rfl
  | cons x l ih => rw [List.map_cons, PyData.canLayAll0, ih]; rfl
theorem dep_ints (l : List Int) : PyData.depthAll (l.map PyData.int) = 0 := by
  induction l with
  | nil => rfl
  | cons x l ih => rw [List.map_cons, PyData.depthAll, ih]; rfl
theorem shp_ints (l : List Int) : SeqAt.shaped (.tuple (l.map PyData.int)) = true := by
  unfold SeqAt.shaped
  rw [PyData.canLay0, lay_ints, PyData.depth, dep_ints]
  rfl
theorem shp_intsL (l : List Int) : SeqAt.shaped (.list (l.map PyData.int)) = true := by
  unfold SeqAt.shaped
  rw [PyData.canLay0, lay_ints, PyData.depth, dep_ints]
  rfl
theorem eqv_ints : ∀ a b : List Int, PyData.eqvAll (a.map PyData.int) (b.map PyData.int) = decide (a = b)
  | [], [] => rfl
  | [], y :: b => rfl
  | x :: a, [] => rfl
  | x :: a, y :: b => by
    rw [List.map_cons, List.map_cons, PyData.eqvAll, eqv_ints a b, PyData.eqv]
    by_cases h : x = y
    · by_cases h2 : a = b
      · simp [h, h2]
      · simp [h, h2]
    · simp [h]
theorem eqB_ints (a b : List Int) : eqB (.tup (a.map D.int)) (.tup (b.map D.int)) = some (decide (a = b)) := by
  unfold eqB
  rw [toP_ints, toP_ints]
  simp only
  rw [if_pos ⟨shp_ints a, shp_ints b⟩, PyData.eqv, eqv_ints]
theorem eq_ints (a b : List Int) : eqA (.tup (a.map D.int)) (.tup (b.map D.int)) = some (.bl (decide (a = b))) := by
  show (eqS _ _).or (eqG _ _) = _
  have : eqS (.tup (a.map D.int)) (.tup (b.map D.int)) = none := rfl
  rw [this]
  unfold eqG
  rw [eqB_ints]
  rfl
theorem ne_ints (a b : List Int) : neA (.tup (a.map D.int)) (.tup (b.map D.int)) = some (.bl (!decide (a = b))) := by
  show (neS _ _).or (neG _ _) = _
  have : neS (.tup (a.map D.int)) (.tup (b.map D.int)) = none := rfl
  rw [this]
  unfold neG
  rw [eqB_ints]
  rfl
theorem notIn_tups (a : List Int) (x y : Int) : notInTD (.tup (a.map D.int)) (.tup [.tup [.int x], .tup [.int y]]) = some (.bl (!(decide (a = [x]) || decide (a = [y])))) := by
  unfold notInTD inTB
  have e : toP (.tup [.tup [.int x], .tup [.int y]]) = some (.tuple [.tuple [.int x], .tuple [.int y]]) := rfl
  rw [toP_ints, e]
  simp only
  rw [if_pos ⟨shp_ints a, by rfl⟩]
  have h : ∀ z : Int, PyData.eqv (.tuple [.int z]) (.tuple (a.map PyData.int)) = decide (a = [z]) := fun z => by
    rw [PyData.eqv]
    have := eqv_ints [z] a
    rw [show [PyData.int z] = [z].map PyData.int from rfl, this]
    congr 1
    exact propext ⟨Eq.symm, Eq.symm⟩
  rw [List.any_cons, List.any_cons, List.any_nil, h, h]
  simp
theorem notIn_lsts (a : List Int) (x y : Int) : notInTD (.lst (a.map D.int)) (.tup [.lst [.int x], .lst [.int y]]) = some (.bl (!(decide (a = [x]) || decide (a = [y])))) := by
  unfold notInTD inTB
  have e : toP (.tup [.lst [.int x], .lst [.int y]]) = some (.tuple [.list [.int x], .list [.int y]]) := rfl
  rw [toP_intsL, e]
  simp only
  rw [if_pos ⟨shp_intsL a, by rfl⟩]
  have h : ∀ z : Int, PyData.eqv (.list [.int z]) (.list (a.map PyData.int)) = decide (a = [z]) := fun z => by
    rw [PyData.eqv]
    have := eqv_ints [z] a
    rw [show [PyData.int z] = [z].map PyData.int from rfl, this]
    congr 1
    exact propext ⟨Eq.symm, Eq.symm⟩
  rw [List.any_cons, List.any_cons, List.any_nil, h, h]
  simp
end Dn
/-! WORDS.index(x), WORDS a tuple written at the top. -/
namespace Dn
open PySem PySem.Spec PyProof.Rows L2
def rIndexT (K : PySem.W.Frag) : V → List V → Hp → VK → Prop := fun x xs H Q => ∃ (a : Addr) (ys : List V) (y : V) (j : Nat) (z : V), x = V.ref a ∧ xs = [y] ∧ SqT K H a ys ∧ flatV y = true ∧ ys.all flatV = true ∧ ys[j]? = some z ∧ eqV z y = true ∧
  (∀ (m : Nat) (z' : V), m < j → ys[m]? = some z' → eqV z' y = false) ∧ Q (.int (j : Nat)) H
theorem mt_indexT {X : Cx} : MtR X "tuple.index" (rIndexT X.K) := by
  intro pins s σ H x xs v us Q I rx rxs h
  obtain ⟨a, ys, y, j, z, rfl, rfl, hs, fy, fys, hz, hzj, hno, q⟩ := h
  cases rx
  cases rxs with
  | cons ry rt =>
    rename_i uy ut
    cases rt
    obtain ⟨its, rv, pl, hlen⟩ := I.tuple hs
    obtain ⟨⟨cls, dd, data, sl⟩, ho, hc, n, hd⟩ := pl
    simp only at hc hd
    subst hc
    subst hd
    obtain ⟨u, hu, ru⟩ := rv.get hz
    obtain ⟨hjl, hje⟩ := List.getElem?_eq_some_iff.mp hu
    have hvl := rv.length
    have hj : j < its.toArray.size := by simpa using hjl
    refine call_meets PySem.F.slot_tuple_index ⟨_, ho, rfl⟩ PySem.F.entry_tuple_index (PySem.F.args_tuple_index_2 _ _)
      (TI.tuple_indexAt a its.toArray n dd sl uy (eqU y) j hj ?_ ?_) ⟨ho, fun u' hu' => mem_eqAt ry fy rv fys u' (by simpa using hu'), ?_⟩
    · have e1 : its.toArray[j] = u := by simpa using hje
      rw [e1, eqU_of ru (flat_at fys hz)]
      exact hzj
    · intro m hm hmj
      have hml : m < its.length := by simpa using hm
      have hmy : m < ys.length := by omega
      have hy' : ys[m]? = some ys[m] := List.getElem?_eq_getElem hmy
      obtain ⟨u2, hu2, ru2⟩ := rv.get hy'
      obtain ⟨_, hme⟩ := List.getElem?_eq_some_iff.mp hu2
      have e1 : its.toArray[m] = u2 := by simpa using hme
      rw [e1, eqU_of ru2 (flat_at fys hy')]
      exact hno m _ hmj hy'
    · exact ⟨.int (j : Nat), H, I.tok _, ⟨_, rfl⟩, q⟩
structure Gti (K : PySem.W.Frag) (mg : Str → Option Value) (x : Str) (a : Addr) (vs : List V) : Prop where
  g : Gt K mg x a vs
  d : ∃ o, K.lookup a = some o ∧ o.cls = .type "tuple" ∧ o.dict = none
/-- the first place of a flat thing among flat ones -/
def gidx (vs : List V) (v : V) : Option Nat := match vs with
  | [] => none
  | w :: r => if eqV w v = true then some 0 else (gidx r v).map (· + 1)
theorem gidx_ok : ∀ {vs : List V} {v : V} {j : Nat}, gidx vs v = some j → ∃ z, vs[j]? = some z ∧ eqV z v = true ∧ ∀ (m : Nat) (z' : V), m < j → vs[m]? = some z' → eqV z' v = false
  | [], _, _, h => by cases h
  | w :: r, v, j, h => by
    unfold gidx at h
    by_cases q : eqV w v = true
    · rw [if_pos q] at h
      cases h
      exact ⟨w, rfl, q, fun m _ hm => by omega⟩
    · rw [if_neg q] at h
      cases q2 : gidx r v with
      | none => rw [q2] at h; cases h
      | some k =>
        rw [q2] at h
        cases h
        obtain ⟨z, e1, e2, e3⟩ := gidx_ok q2
        refine ⟨z, e1, e2, fun m z' hm hz => ?_⟩
        cases m with
        | zero => cases hz; exact Bool.eq_false_iff.mpr q
        | succ m => exact e3 m z' (by have hm : m + 1 < k + 1 := hm; omega) hz
def gidxG (vs : List V) (d : D) : Option D := match flatD d with
  | some v => (gidx vs v).map fun j => .int (j : Nat)
  | none => none
section
variable {ι : Type} {X : ι → Cx} {Wf : ι → WX} {Pr : Program} {w : World} {K : PySem.W.Frag} {mg : Str → Option Value} {base : Heap} {n : Nat} {P : Nat → Bool} {b e : Expr} {x : Str} {a : Addr} {vs : List V}
theorem de_gidx {f : En → Out AR} (G : Gti K mg x a vs) (hf : vs.all flatV = true) (hb : DA X Wf K n P b f) (mk : ∀ i t, PE (X i) b t → PE (X i) e (tBM K "tuple" (rIndexT K) (tC (.ref a)) (tCons t tNil))) : DE X Wf K n P e (op1 (gidxG vs) f) := by
  obtain ⟨t, p, rd⟩ := hb.ex
  refine ⟨fun W => tBM K "tuple" (rIndexT K) (tC (.ref a)) (tCons (t W) tNil), fun i => mk i _ (p i), fun W S σ H en Q fi I P => ?_⟩
  refine ⟨.inr (.inl ⟨rfl, G.d⟩), rd W S σ H en _ fi I ?_⟩
  unfold op1 at P
  cases q : f en with
  | ok ar en1 =>
    rw [q] at P
    intro v H1 tmp1 s1 J h1
    obtain ⟨c, ec, P⟩ := liftD P
    obtain ⟨d, e1, e2⟩ := bind_some ec
    obtain ⟨Lv, op, k⟩ := ER.opn J
    have r := op.arg h1 e1
    unfold gidxG at e2
    cases q2 : flatD d with
    | none => rw [q2] at e2; cases e2
    | some u =>
      rw [q2] at e2
      have e2 : (gidx vs u).map (fun j => D.int (j : Nat)) = some c := e2
      cases q3 : gidx vs u with
      | none => rw [q3] at e2; cases e2
      | some j =>
        rw [q3] at e2
        cases e2
        obtain ⟨z, z1, z2, z3⟩ := gidx_ok q3
        obtain ⟨rfl, fv⟩ := flatD_ok r q2
        exact ⟨a, vs, v, j, z, rfl, rfl, .inr G.g.k, fv, hf, z1, z2, z3, P _ H1 (ER.add k Grow.refl rfl s1)⟩
  | ex C fs en' => rw [q] at P; exact P
  | bad => rw [q] at P; exact P
end
end Dn
/-! for x in l, l a slot's own list that the body leaves as it is, and that may grow behind the loop. -/
namespace Dn
open PySem PySem.Spec PyProof.Rows L2
def pOr (P : Nat → Bool) (j : Nat) : Nat → Bool := fun i => P i || i == j
open Classical in
noncomputable def forLD (asg : D → En → Option En) (g : En → Out Fl) (j : Nat) (ds0 : List D) : List D → En → Out Fl
  | [], en => if lstAt en j = some ds0 then .ok .nx en else .bad
  | d :: ds, en => if lstAt en j = some ds0 then match asg d en with
    | none => .bad
    | some en1 => (g en1).bind fun fl en => match fl with
      | .nx => forLD asg g j ds0 ds en
      | .ct => forLD asg g j ds0 ds en
      | .bk => .ok .nx en
      | .rt o => .ok (.rt o) en
    else .bad
noncomputable def forLS (asg : D → En → Option En) (j : Nat) (g : En → Out Fl) : En → Out Fl := fun en => match lstAt en j with
  | some ds => forLD asg g j ds ds en
  | none => .bad
/-- the surroundings with one pin more -/
def Su.p (S : Su) (j : Nat) (v : V) : Su := ⟨⟨S.F.H0, S.F.O0, S.F.Av, (j, v) :: S.F.pn⟩, S.xv, S.xo, S.tmp, S.xl⟩
section
variable {K : PySem.W.Frag} {S : Su} {σ σ' : L2.St} {H H' : Hp} {en en' : En} {tmp : List (D × V)} {W : WX} {n : Nat} {P : Nat → Bool} {j : Nat} {v : V}
theorem ER.pinS {F : Fm} {vs : List (Option V)} {os : En} (I : ER K F vs H os tmp) (h : vs[j]? = some (some v)) : ER K ⟨F.H0, F.O0, F.Av, (j, v) :: F.pn⟩ vs H os tmp := by
  obtain ⟨fp, f, t⟩ := I.fit
  exact { len := I.len, fit := ⟨fp, ⟨fun i o e => f.rep i o e, fun i j a h1 h2 => f.dj i j a h1 h2, fun i a h => f.mu i a h⟩, t⟩, st := fun a o h1 h2 => I.st a o h1 h2, av := fun a h => I.av a h, om := fun a h => I.om a h, pin := fun q hq => (List.mem_cons.mp hq).elim (fun z => by rw [z]; exact h) (fun z => I.pin q z) }
theorem ER.unpinS {F : Fm} {vs : List (Option V)} {os : En} (I : ER K ⟨F.H0, F.O0, F.Av, (j, v) :: F.pn⟩ vs H os tmp) : ER K F vs H os tmp := by
  obtain ⟨fp, f, t⟩ := I.fit
  exact { len := I.len, fit := ⟨fp, ⟨fun i o e => f.rep i o e, fun i j a h1 h2 => f.dj i j a h1 h2, fun i a h => f.mu i a h⟩, t⟩, st := fun a o h1 h2 => I.st a o h1 h2, av := fun a h => I.av a h, om := fun a h => I.om a h, pin := fun q hq => I.pin q (List.mem_cons_of_mem _ hq) }
theorem Stt.pin (I : Stt K S σ H en tmp) (h : σ[j]? = some (some v)) : Stt K (S.p j v) σ H en tmp := ER.pinS I (getL h)
theorem Stt.unpin (I : Stt K (S.p j v) σ H en tmp) : Stt K S σ H en tmp := ER.unpinS I
theorem Stt.pinned (I : Stt K (S.p j v) σ H en tmp) (hj : j < σ.length) : σ[j]? = some (some v) := by
  have := ER.pin I (j, v) List.mem_cons_self
  rw [List.getElem?_append_left hj] at this
  exact this
theorem PoS.p {B : Ends} {o : Out Fl} (h : PoS K S W σ B o) : PoS K (S.p j v) W σ B o := by
  cases o with
  | ok fl en =>
    cases fl with
    | nx => exact fun σ2 H l2 J => h σ2 H l2 (Stt.unpin J)
    | bk => exact fun σ2 H l2 J => h σ2 H l2 (Stt.unpin J)
    | ct => exact fun σ2 H l2 J => h σ2 H l2 (Stt.unpin J)
    | rt o => exact fun v σ2 H l2 J => h v σ2 H l2 (ER.unpinS J)
  | ex C fs en => exact fun σ2 dO H ws l2 J => h σ2 dO H ws l2 (Stt.unpin J)
  | bad => exact h
theorem Fine.p (f : Fine n P S en) (hj : j < n) : Fine n (pOr P j) (S.p j v) en := ⟨f.len, fun q hq => by
  rcases List.mem_cons.mp hq with rfl | hq
  · exact ⟨hj, by simp [pOr]⟩
  · have := f.pin q hq
    exact ⟨this.1, by simp [pOr, this.2]⟩⟩
end
section
variable {ι : Type} {X : ι → Cx} {Wf : ι → WX} {K : PySem.W.Frag} {n : Nat} {P : Nat → Bool} {e tg : Expr} {pos : Pos}
theorem ds_forL {j : Nat} {sl : List Nat} {body : List Stmt} {asg : D → En → Option En} {g : En → Out Fl} (hp : ∀ i, PassesOwn (model (X i).prog (X i).w) (X i).A (X i).env (X i).xe) (hc : ∀ i, (X i).calm = true) (hK : ∀ i, (X i).K = K) (hj : j < n)
    (hv : ∀ i, PE (X i) e (tVar j)) (hg : DG X K n (pOr P j) tg sl asg) (hb : DSs X Wf K n (pOr P j) body g) (hs : ∀ i x, foldedSetIterable e (X i).env x = pure x := by intro _ _; rfl) : DS X Wf K n P (.For tg e body [] pos) (forLS asg j g) := by
  obtain ⟨t1, p1, r1⟩ := hg.ex
  obtain ⟨t2, p2, r2⟩ := hb.ex
  refine ⟨fun W => tFor (iAny K (tVar j)) t1 (t2 W), fun i => ps_for (hp i) (hc i) (by have := pi_any (tg := tg) (hv i); rw [hK i] at this; exact this) (p1 i) (p2 i) (hs i), fun W S σ H en B fi I Po => ?_⟩
  unfold forLS at Po
  cases q : lstAt en j with
  | none => rw [q] at Po; exact Po.elim
  | some ds =>
    rw [q] at Po
    have e0 := lstAt_eq q
    have hjl : j < σ.length := by rw [Stt.len I, fi.len]; exact hj
    obtain ⟨Lv0, op0, k0⟩ := ER.opn I
    obtain ⟨a, u0, hv0, hu0, hc0⟩ := op0.so j _ (getE e0)
    rw [List.getElem?_append_left hjl] at hv0
    cases u0 with
    | lst vs0 =>
      have I1 : Stt K (S.p j (.ref a)) σ H en S.tmp := Stt.pin I hv0
      have Po1 : PoS K (S.p j (.ref a)) W σ B (forLD asg g j ds ds en) := PoS.p Po
      refine ⟨.ref a, hv0, .inl ⟨a, rfl, ⟨vs0, .inl (.inl hu0)⟩, ?_⟩⟩
      refine ⟨fun i m σ' H' => m = ds.length - i ∧ i ≤ ds.length ∧ σ'.length = σ.length ∧ ∃ en', Stt K (S.p j (.ref a)) σ' H' en' S.tmp ∧ Fine n (pOr P j) (S.p j (.ref a)) en' ∧ PoS K (S.p j (.ref a)) W σ' B (forLD asg g j ds (ds.drop i) en'), ⟨ds.length, by simp, Nat.zero_le _, rfl, en, I1, fi.p hj, Po1⟩, ?_⟩
      rintro i m σ' H' ⟨rfl, hi', l', en', J', fj, Pj⟩
      have hl' : lstAt en' j = some ds := by
        by_cases z : lstAt en' j = some ds
        · exact z
        · cases hd : ds.drop i with
          | nil => rw [hd, forLD, if_neg z] at Pj; exact Pj.elim
          | cons d r => rw [hd, forLD, if_neg z] at Pj; exact Pj.elim
      have e1 := lstAt_eq hl'
      have hjl' : j < σ'.length := by omega
      obtain ⟨Lv, op, k⟩ := ER.opn J'
      obtain ⟨a', u, hv', hu, hcu⟩ := op.so j _ (getE e1)
      rw [List.getElem?_append_left hjl', Stt.pinned J' hjl'] at hv'
      cases hv'
      cases u with
      | lst vs =>
        obtain ⟨hz, rl⟩ := hcu
        by_cases hlt : i < ds.length
        · obtain ⟨x0, hx0, rx0⟩ := rl.get (List.getElem?_eq_getElem hlt)
          refine .inr ⟨⟨vs, x0, .inl (.inl hu), hx0⟩, fun σ2 H2 => i + 1 ≤ ds.length ∧ σ2.length = σ.length ∧ ∃ en2, Stt K (S.p j (.ref a)) σ2 H2 en2 S.tmp ∧ Fine n (pOr P j) (S.p j (.ref a)) en2 ∧ PoS K (S.p j (.ref a)) W σ2 B (forLD asg g j ds (ds.drop (i + 1)) en2),
            fun σ2 H2 h => ⟨_, by omega, rfl, h⟩, fun x H2 y => ?_⟩
          obtain ⟨e2, y⟩ := y
          have ex := Option.some.inj ((y vs (.inl (.inl hu))).symm.trans hx0)
          rw [← ex] at rx0
          subst e2
          rw [List.drop_eq_getElem_cons hlt, forLD, if_pos hl'] at Pj
          have J2 := k _ ((ds[i], x) :: S.tmp) Grow.refl fun q hq => (List.mem_cons.mp hq).elim (fun z => .inr (by rw [z]; exact rx0)) .inl
          refine r1 (S.p j (.ref a)) σ' _ en' ds[i] x _ fj J2 ?_
          cases qa : asg ds[i] en' with
          | none => rw [qa] at Pj; exact Pj.elim
          | some en2 =>
            rw [qa] at Pj
            intro σ3 H3 l3 _ J3
            have f3 := fj.to J' J3 l3
            refine r2 W (S.p j (.ref a)) σ3 H3 en2 _ f3 J3 ?_
            have Pj : PoS K (S.p j (.ref a)) W σ' B ((g en2).bind fun fl en => match fl with
              | .nx => forLD asg g j ds (ds.drop (i + 1)) en
              | .ct => forLD asg g j ds (ds.drop (i + 1)) en
              | .bk => .ok .nx en
              | .rt o => .ok (.rt o) en) := Pj
            cases q2 : g en2 with
            | ok fl en3 =>
              rw [q2] at Pj
              cases fl with
              | nx => exact fun σ4 H4 l4 J4 => ⟨hlt, l4.trans (l3.trans l'), en3, J4, f3.to J3 J4 l4, PoS.len Pj (l4.trans l3)⟩
              | ct => exact fun σ4 H4 l4 J4 => ⟨hlt, l4.trans (l3.trans l'), en3, J4, f3.to J3 J4 l4, PoS.len Pj (l4.trans l3)⟩
              | bk => exact fun σ4 H4 l4 J4 => Pj σ4 H4 (l4.trans l3) J4
              | rt o => exact fun v σ4 H4 l4 J4 => Pj v σ4 H4 (l4.trans l3) J4
            | ex C fs en3 => rw [q2] at Pj; exact PoS.len Pj l3
            | bad => rw [q2] at Pj; exact Pj
        · have hz2 : i = ds.length := by omega
          subst hz2
          rw [List.drop_length, forLD, if_pos hl'] at Pj
          exact .inl ⟨⟨vs, .inl (.inl hu), by rw [rl.length]; exact Nat.le_refl _⟩, Pj σ' H' rfl J'⟩
      | _ => exact hcu.elim
    | _ => exact hc0.elim
theorem x_forL {o : Option O} {en : En} {asg : D → En → Option En} {j : Nat} {g : En → Out Fl} : forLS asg j g (o :: en) = match lstAt (o :: en) j with
  | some ds => forLD asg g j ds ds (o :: en)
  | none => .bad := rfl
/-- the loop goes through, whatever it does to the other slots -/
theorem forLD_inv {asg : D → En → Option En} {g : En → Out Fl} {j : Nat} {ds0 : List D} : ∀ (ds : List D) (Iv : En → Prop) (en : En), Iv en → (∀ en, Iv en → lstAt en j = some ds0) →
    (∀ d ∈ ds, ∀ en, Iv en → ∃ en1 en2, asg d en = some en1 ∧ (g en1 = .ok .nx en2 ∨ g en1 = .ok .ct en2) ∧ Iv en2) → ∃ en', forLD asg g j ds0 ds en = .ok .nx en' ∧ Iv en'
  | [], Iv, en, h0, hl, _ => ⟨en, by rw [forLD, if_pos (hl en h0)], h0⟩
  | d :: ds, Iv, en, h0, hl, st => by
    obtain ⟨en1, en2, e1, e2, h1⟩ := st d List.mem_cons_self en h0
    obtain ⟨en', e3, h2⟩ := forLD_inv (j := j) (ds0 := ds0) ds Iv en2 h1 hl fun d' hd => st d' (List.mem_cons_of_mem _ hd)
    refine ⟨en', ?_, h2⟩
    rw [forLD, if_pos (hl en h0), e1]
    rcases e2 with e2 | e2 <;> (simp only [e2, bind_ok]; exact e3)
end
end Dn
/-! An error caught, and another raised in its place: raise X(..) from None in an except suite. -/
namespace Dn
open PySem PySem.Spec PyProof.Rows L2

/-- an own error that keeps something, made where nothing is handled: no context -/
theorem pmkN {X : Cx} {x : Str} {C fI : Addr} {k : Nat} {fd : FuncData} {ps : List Str} {sp : Sp} {e : Expr} {es : List Expr} {ta : TA} {p pos : Pos} (T : OexC X.K C)
    (iC : PySem.W.findIn X.K (.ref C) "__init__" = some (some (.ref fI)))
    (tI : PySem.W.typeIn X.K (.ref fI) = some (.type "function"))
    (Fi : FnOk X.prog X.w X.K X.mg X.base CX0 k fI fd ps sp) (hr : Room (k + 1) X.A) (hb : Binds X.K fd ps []) (hg : Gl X x) (hm : X.mg x = some (.ref C)) (ha : PA X (e :: es) ta)
    (hdb : (x == ("__debug__" : Str)) = false := by decide)
    (he : starEach (e :: es) X.env = (false, eval e X.env) :: starEach es X.env := by rfl)
    (hpl : (backTo pos (starEach es X.env)).any (·.1) = false := by rfl) : L2N.PMk X (.Call (.Name x p) (e :: es) [] pos) (tMkO C sp [] ta) := by
  intro pn s σ H Q I h
  obtain ⟨_, _, _, _, bm, _, _, _, _, _, _, _, _, _, _, hC, hbm⟩ := T.cls
  refine wpAny_Call_Name_kw (ld_glob I hg hm ?_ hdb)
  refine PySem.W.callWith_K (h₀ := X.base) I.ok.mod.kin T.kC (thn (ha.run pos pn s σ H _ I h) ?_) he hpl
  rintro us ⟨hp, g, dr, t, os⟩ ⟨vs, H1, J, rv, z, q⟩
  refine ⟨J.kIn, ?_⟩
  show wpAny _ _ (call (.ref C) us) _ _ _
  have s1 : hp.objs.size ≤ hp.objs.size + 1 := Nat.le_succ _
  have n1 : H1 (hp.objs.size + 1) = none := J.hok.fresh s1
  have q := q (hp.objs.size + 1) n1
  rw [List.append_nil] at q
  have kp : ∀ b o, hp.get? b = some o → ((hp.push (PySem.W.kdv_tup us)).push (PySem.HandSPX.excO C hp.objs.size)).get? b = some o :=
    fun b o y => Heap.get?_push_of_some _ (Heap.get?_push_of_some _ y)
  have at1 : ((hp.push (PySem.W.kdv_tup us)).push (PySem.HandSPX.excO C hp.objs.size)).get? (hp.objs.size + 1) = some (PySem.HandSPX.excO C hp.objs.size) := by heap_get
  have J2 := J.laid (t' := t) (a := hp.objs.size + 1) (o := exo (hp.objs.size + 1) C none) kp s1 (exo_ok at1)
  have rv2 : Vals (V.ref (hp.objs.size + 1) :: vs) (Value.ref (hp.objs.size + 1) :: us) := .cons rfl rv
  have ll : (Value.ref (hp.objs.size + 1) :: us ++ []).length = ps.length := by
    have y := rv2.length
    rw [Fi.len _ _ _ _ q] at y
    rw [List.append_nil]
    exact y.symm
  have lu : us.length ≤ sizeLine := by
    have y := Paired.length rv
    rw [sizeLine_eq]; omega
  have b2 := hb _ (Value.ref (hp.objs.size + 1) :: us) J2.kIn ll
  rw [List.append_nil] at b2
  have run := Fi.run _ X.stack _ _ ⟨Value.ref (hp.objs.size + 1) :: us, []⟩ _ _ _ (fun _ _ _ => False) (hr.make C us []) (J2.env0.make C us []) b2 rv2 q
  refine wpAny_call (PySem.HandSPX.call_own F.excBase_ValueError (fun Y => PySem.HandSPX.refsVE_contains Y bm hbm) (J.kIn _ _ hC) (PySem.W.looks_findIn J.kIn iC)
    (fun self => PySem.W.bind_fn J.kIn self tI) lu (codeAny_mono run fun r s' w => ?_))
  cases r with
  | error er => exact L2.pass0 pn σ _ _ er s' J2 w
  | ok fl =>
    cases fl with
    | next => exact w.elim
    | brk => exact w.elim
    | cont => exact w.elim
    | ret u =>
      obtain ⟨v, H2, oe, br, un, ok2, rr, ev, d, fs, ea, ed, hd, w⟩ := w
      subst ev
      obtain ⟨h2, g2, d2, t2, o2⟩ := s'
      obtain ⟨t0, G, JJ, kG, gn, ho, na⟩ := mk_end0 (d2 := d2) (t2 := t2) J s1 kp un ok2 oe br ea ed hd
      exact ⟨rr, _, _, _, ⟨G, g2, d2, t2, o2⟩, _, .ref C, some d, rfl, JJ, kG, gn, ho, ⟨rfl, rfl, fun vs e => by cases e; rfl⟩, rfl, rfl, na, rfl, br, raises_own T.exC T.tyC, w⟩

section
variable {ι : Type} {X : ι → Cx} {Wf : ι → WX} {K : PySem.W.Frag} {n : Nat} {Pn : Nat → Bool} {s : Stmt} {ss : List Stmt} {e a b : Expr} {es : List Expr} {pos p1 p2 : Pos} {P : Program} {w : World} {mg : Str → Option Value} {base : Heap}
/-- raise C(x), by what the statement is known to do -/
theorem ds_raise1by {C : Addr} {f : Str} {g : En → Out (List AR)} (ha : DAs X Wf K n Pn es g) (mk : ∀ i t, PA (X i) es t → PS (X i) s (fun _ σ H => tMkO C (spI1 C f) [] t σ H fun cls d H' => Wf i cls d σ H')) :
    DS X Wf K n Pn s (raise1D C f g) := by
  obtain ⟨t, p, rd⟩ := ha.ex
  refine ⟨fun W => fun _ σ H => tMkO C (spI1 C f) [] (t W) σ H fun cls d H' => W cls d σ H', fun i => mk i _ (p i), fun W S σ H en B fi I Po => rd W S σ H en _ fi I ?_⟩
  unfold raise1D at Po
  cases q : g en with
  | ok as en1 =>
    rw [q] at Po
    intro vs H1 tmp1 s1 J h1
    have Po : PoS K S W σ B (match frzAs en1 as with | some [d] => .ex C (some ([f], [d])) en1 | _ => .bad) := Po
    split at Po
    · rename_i d qv
      obtain ⟨Lv, op, k⟩ := ER.opn J
      obtain ⟨v, ws, ev, rv, ew⟩ := op.argsF h1 qv
      have ew : ws = [] := ew
      subst ew; subst ev
      refine ⟨by simp, fun ad hn => ⟨ad, v, rfl, upd_same, fun dx hdx hne => ⟨rfl, dx, [(f, v)], upd_same, by rw [upd_ne hne, upd_same], by rw [upd_ne hne] at hdx; exact hdx, ?_⟩⟩⟩
      have hd0 : H1 dx = none := by rw [upd_ne hne] at hdx; exact hdx
      rw [exo_heap hn hne]
      have gr : Grow H1 (upd H1 dx (.xd [(f, v)])) := Grow.upd hd0
      refine Po σ (some dx) _ [v] rfl ?_ ⟨rfl, rfl, dx, rfl, upd_same⟩
      exact k _ _ gr fun q hq => by
        rcases List.mem_cons.mp hq with rfl | hq
        · exact .inr (Rep.mono gr.keep _ _ rv)
        · exact .inl (s1 q hq)
    · exact Po.elim
  | ex C' fs en' => rw [q] at Po; exact Po.x
  | bad => rw [q] at Po; exact Po
/-- the __init__ of such an error, while another is handled -/
structure Er1H (P : Program) (w : World) (K : PySem.W.Frag) (mg : Str → Option Value) (base : Heap) (x : Str) (C : Addr) (f : Str) : Prop where
  g : mg x = some (.ref C)
  o : OexC K C
  ex : ∃ (fI : Addr) (fd : FuncData) (ps : List Str), PySem.W.findIn K (.ref C) "__init__" = some (some (.ref fI)) ∧ PySem.W.typeIn K (.ref fI) = some (.type "function") ∧ L2.Binds K fd ps [] ∧ L2H.FnH P w K mg base CX0 1 fI fd ps (spI1 C f)
theorem ok_err1H {q : String} {st : Stmt} {f : Addr} {fd : FuncData} {C : Addr} {p fl : Str} {pa pb pc pd : Pos} (F : L2.Fun K "__init__" q st f fd) (S : FnScope ["self", p] ["self", p] (defScope st)) (T : OexC K C) (hno : PySem.W.findIn K (.ref C) fl = some none)
    (hb : defBody st = [.Assign [.Attribute (.Name "self" pa) fl pb] (.Name p pc) pd])
    (hs : ∀ cdv A outer s H E y, PE (L2H.cxH CX0 P w K mg base ["self", p] q (defScope st) f cdv A outer s H E y) (.Name "self" pa) (tVar 0)) (hp : ∀ cdv A outer s H E y, PE (L2H.cxH CX0 P w K mg base ["self", p] q (defScope st) f cdv A outer s H E y) (.Name p pc) (tVar 1)) :
    L2H.FnH P w K mg base CX0 1 f fd ["self", p] (spI1 C fl) := by
  obtain ⟨_, _, _, _, _, _, c, _, _, e, l, hc⟩ := F.ex
  subst e
  refine L2H.fn_ofH l hc S (fun vs H Q E h => ?_) (fun A outer s H vs Q E y hot hr h => ?_)
  · obtain ⟨ad, v, rfl, _⟩ := h
    rfl
  · obtain ⟨ad, v, rfl, ha, k⟩ := h
    rw [hb]
    refine ⟨_, pss_one (ps_ost (hs c A outer s H E y) (hp c A outer s H E y)), ?_⟩
    exact ⟨_, rfl, _, rfl, ad, C, rfl, T, hno, .inl ⟨ha, fun dx h1 h2 => k dx h1 h2⟩⟩
/-- raise C(x) where errors are to have no context -/
theorem ds_er1N {x f : Str} {C : Addr} {g : En → Out (List AR)} (T : Er1 P w K mg base x C f) (cx : ∀ i, At (X i) P w K mg base) (hr : ∀ i, Room 2 (X i).A) (hc : ∀ i, (X i).calm = true) (tk : ∀ i, L2N.Takes (X i) (Wf i)) (hg : ∀ i, Gl (X i) x) (ha : DAs X Wf K n Pn (a :: es) g)
    (hdb : (x == ("__debug__" : Str)) = false := by decide) (he : ∀ i, starEach (a :: es) (X i).env = (false, eval a (X i).env) :: starEach es (X i).env := by intro _; rfl) (hpl : ∀ i, (backTo p2 (starEach es (X i).env)).any (·.1) = false := by intro _; rfl) :
    DS X Wf K n Pn (.Raise (some (.Call (.Name x p1) (a :: es) [] p2)) none pos) (raise1D C f g) := by
  obtain ⟨fI, fd, ps, iC, tI, bI, G⟩ := T.ex
  refine ds_raise1by ha fun i t p => ?_
  have c := cx i
  have G' : FnOk (X i).prog (X i).w (X i).K (X i).mg (X i).base CX0 1 fI fd ps (spI1 C f) := by
    rw [c.p, c.w, c.k, c.m, c.b]; exact G
  exact L2N.ps_raise (hc i) (tk i) (pmkN (by rw [c.k]; exact T.o) (by rw [c.k]; exact iC) (by rw [c.k]; exact tI) G' (hr i) (by rw [c.k]; exact bI) (hg i) (by rw [c.m]; exact T.g) p hdb (he i) (hpl i))
/-- raise C(x) from None, in an except suite -/
theorem ds_er1H {x f : Str} {C : Addr} {g : En → Out (List AR)} {j : Nat} {cpos : Pos} (T : Er1H P w K mg base x C f) (cx : ∀ i, At (X i) P w K mg base) (hr : ∀ i, L2H.RoomH 2 (X i).A) (hc : ∀ i, L2H.HotC (X i)) (tk : ∀ i, Takes (X i) (Wf i)) (hg : ∀ i, Gl (X i) x) (ha : DAs X Wf K n Pn (a :: es) g)
    (hdb : (x == ("__debug__" : Str)) = false := by decide) (he : ∀ i, starEach (a :: es) (X i).env = (false, eval a (X i).env) :: starEach es (X i).env := by intro _; rfl) (hpl : ∀ i, (backTo p2 (starEach es (X i).env)).any (·.1) = false := by intro _; rfl) :
    DS X Wf K n Pn (.Raise (some (.Call (.Name x p1) (a :: es) [] p2)) (some (.Constant .none j cpos)) pos) (raise1D C f g) := by
  obtain ⟨fI, fd, ps, iC, tI, bI, G⟩ := T.ex
  refine ds_raise1by ha fun i t p => ?_
  have c := cx i
  have G' : L2H.FnH (X i).prog (X i).w (X i).K (X i).mg (X i).base CX0 1 fI fd ps (spI1 C f) := by
    rw [c.p, c.w, c.k, c.m, c.b]; exact G
  exact L2H.ps_raiseHN (hc i) (tk i) (L2H.pmk5_oexH (by rw [c.k]; exact T.o) (by rw [c.k]; exact iC) (by rw [c.k]; exact tI) G' (hr i) (hc i) (by rw [c.k]; exact bI) L2.pass0 (hg i) (by rw [c.m]; exact T.g) p hdb (he i) (hpl i))
/-- a def whose errors have no context -/
structure KnN (P : Program) (w : World) (K : PySem.W.Frag) (mg : Str → Option Value) (base : Heap) (x : Str) (k : Nat) (ps : List Str) (F : Fn) : Prop where
  ex : ∃ (f : Addr) (fd : FuncData), mg x = some (.ref f) ∧ PySem.W.keepIn K (.ref f) = true ∧ L2.Binds K fd ps [] ∧ FnOk P w K mg base (L2N.CX P w) k f fd ps (SpD K F)
theorem df_knN {x : Str} {k : Nat} {ps : List Str} {F : Fn} {f : En → Out (List AR)} (G : KnN P w K mg base x k ps F) (cx : ∀ i, At (X i) P w K mg base) (hr : ∀ i, Room k (X i).A) (hg : ∀ i, Gl (X i) x) (tk : ∀ i, L2N.Takes (X i) (Wf i)) (ha : DAs X Wf K n Pn (e :: es) f)
    (hdb : (x == ("__debug__" : Str)) = false := by decide) (st : ∀ i, starEach (e :: es) (X i).env = (false, eval e (X i).env) :: starEach es (X i).env := by intro _; rfl) (pl : ∀ i, (backTo pos (starEach es (X i).env)).any (·.1) = false := by intro _; rfl) :
    DF X Wf K n Pn (.Call (.Name x p1) (e :: es) [] pos) (callD F f) := by
  obtain ⟨fa, fd, gF, kF, bF, G⟩ := G.ex
  refine df_call ha fun i t p => ?_
  have c := cx i
  have G' : FnOk (X i).prog (X i).w (X i).K (X i).mg (X i).base (L2N.CX (X i).prog (X i).w) k fa fd ps (SpD K F) := by
    rw [c.p, c.w, c.k, c.m, c.b]; exact G
  exact pe_callS G' (hr i) (hg i) (by rw [c.m]; exact gF) (by rw [c.k]; exact kF) (by rw [c.k]; exact bF) (fun σ => L2N.passAt (tk i) σ) p hdb (st i) (pl i)
end

/-! ### try: .. except C: .. raise .. -/
structure HxI {ι : Type} (X : ι → Cx) where
  i : ι
  W : WX
  pn : List (Addr × Obj)
  xe : Value → Shared → Prop
  tk : L2N.Takes ((X i).tr pn xe) W
  po : PassesOwn (model (X i).prog (X i).w) (X i).A (X i).env xe
abbrev hxF {ι : Type} (X : ι → Cx) : HxI X → Cx := fun j => (X j.i).tr j.pn j.xe
abbrev hxW {ι : Type} (X : ι → Cx) : HxI X → WX := fun j => j.W
structure HsI {ι : Type} (X : ι → Cx) (Wf : ι → WX) where
  i : ι
  a : Addr
  oe : Obj
  cls : Value
  d : Option Addr
  pn : List (Addr × Obj)
  hz : L2N.Zn cls d oe
  hf : ∃ vs, oe.data = .fields vs
  tk : L2.Takes (L2H.suiteX (X i) a ((a, oe) :: pn)) (Wf i)
  hot : L2H.HotC (L2H.suiteX (X i) a ((a, oe) :: pn))
abbrev hsF {ι : Type} (X : ι → Cx) (Wf : ι → WX) : HsI X Wf → Cx := fun j => L2H.suiteX (X j.i) j.a ((j.a, j.oe) :: j.pn)
abbrev hsW {ι : Type} (X : ι → Cx) (Wf : ι → WX) : HsI X Wf → WX := fun j => Wf j.i
def tryHx (g : En → Out Fl) (m : Addr → Option Bool) (h : En → Out Fl) : En → Out Fl := fun en => match g en with
  | .ex C fs en' => match m C with
    | some true => h en'
    | some false => .ex C fs en'
    | none => .bad
  | o => o
section
variable {ι : Type} {X : ι → Cx} {Wf : ι → WX} {K : PySem.W.Frag} {n : Nat} {P : Nat → Bool} {pos np pos' : Pos}
theorem ds_tryHx {x : Str} {c : Value} {b₀ : Stmt} {body suite : List Stmt} {g h : En → Out Fl} {m : Addr → Option Bool} (hs : ∀ i, (X i).stack = (X i).env :: (X i).outer) (hf : ∀ i, (X i).env.frame = some (X i).env.locals) (hK : ∀ i, (X i).K = K) (tk : ∀ i, Takes (X i) (Wf i))
    (hpa : ∀ i, ∀ hd : Option Value, PassesOwnAt (model (X i).prog (X i).w) ((X i).A.mark hd) (X i).A (X i).env (X i).xe) (hc : ∀ i, Names (X i) x c) (hm : ∀ C b, m C = some b → PySem.W.exmOne K (.ref C) c = some b)
    (hb : DSs (hxF X) (hxW X) K n P body g) (hh : DSs (hsF X Wf) (hsW X Wf) K n P (b₀ :: suite) h) : DS X Wf K n P (.Try body [.ExceptHandler (some (.Name x np)) none (b₀ :: suite) pos'] [] [] pos) (tryHx g m h) := by
  obtain ⟨t, p, r⟩ := hb.ex
  obtain ⟨t2, p2, r2⟩ := hh.ex
  refine ⟨fun W => fun D σ H => t (wOnly K c (fun _ _ _ => t2 W) W D) D σ H, fun i => by
    have := L2H.ps_try_onlyX (pos := pos) (pos' := pos') (np := np) (hs i) (hf i) (hc i) (hpa i) (tk i) (fun W pn xe tk _ po => p ⟨i, W, pn, xe, tk, po⟩) (ts := fun _ _ _ => t2 (Wf i)) (fun a oe cls d pn hz hf tk hot => p2 ⟨i, a, oe, cls, d, pn, hz, hf, tk, hot⟩)
    rw [hK i] at this
    exact this, fun W S σ H en B fi I Po => r (wOnly K c (fun _ _ _ => t2 W) W B) S σ H en B fi I ?_⟩
  unfold tryHx at Po
  cases q : g en with
  | ok fl en' =>
    rw [q] at Po
    cases fl with
    | nx => exact Po
    | bk => exact Po
    | ct => exact Po
    | rt o => exact Po
  | bad => rw [q] at Po; exact Po
  | ex C fs en' =>
    rw [q] at Po
    intro σ' dO H' ws l' J xa
    have fj : Fine n P S en' := fi.to I J l'
    have Po : PoS K S W σ B (match m C with | some true => h en' | some false => .ex C fs en' | none => .bad) := Po
    cases qm : m C with
    | none => rw [qm] at Po; exact Po.elim
    | some b =>
      rw [qm] at Po
      refine ⟨b, hm C b qm, fun eb a na => ?_, fun eb => ?_⟩
      · subst eb
        exact r2 W S σ' H' en' B fj (ER.sub J fun q hq => List.mem_append_right _ hq) (PoS.len Po l')
      · subst eb
        exact Po σ' dO H' ws l' J xa
end
theorem po_neg {X : Cx} {i : Int} {j : Nat} {p p2 : Pos} : PO X (some (.UnaryOp .USub (.Constant (.int i) j p) p2)) (fun _ H Q => Q (some (-i)) H) := by
  have h := po_some (X := X) (pe_un (pos := p2) un_neg (pe_int (X := X) (i := i) (j := j) (pos := p)))
  exact ⟨fun pins s σ H Q I q => h.run pins s σ H Q I (by
    exact ⟨i, rfl, -i, rfl, q⟩)⟩
end Dn
/-! except (A, B): .. -/
namespace Dn
open PySem PySem.Spec PyProof.Rows L2

theorem flying_keeps {B h h' : Heap} {l : List Env} {a : Addr} {Z : Obj → Prop} (x : HandSPX.FlyingZ B l a Z h) (k : ∀ b o, h.get? b = some o → h'.get? b = some o) : HandSPX.FlyingZ B l a Z h' := by
  obtain ⟨k1, k2, k3, oe, vs, T, oT, ts, he, hz, hd, h1, hn, hne, hT, hdT, h3⟩ := x
  exact ⟨fun b o e => k _ _ (k1 b o e), k2, k3.of_keeps fun b o hb _ => ⟨o, k _ _ hb, rfl⟩, oe, vs, T, oT, ts, k _ _ he, hz, hd, h1, hn, hne, k _ _ hT, hdT, h3⟩
theorem up_keeps {h h' : Heap} (k : ∀ b o, h.get? b = some o → h'.get? b = some o) : h.UpToSlots h' := fun b o e _ => ⟨o.slots, k b o e⟩
/-- what an error meets at except (c1, c2) -/
def wTup (K : PySem.W.Frag) (c1 c2 : Value) (ts : TS) (Wout : WX) (D : Ends) : WX := fun cls d σ H =>
  ∃ b, PySem.W.exmAny K cls [c1, c2] = some b ∧ (b = true → ts D σ H) ∧ (b = false → Wout cls d σ H)
section
variable {X : Cx} {x1 x2 : Str} {c1 c2 : Value} {body suite : List Stmt} {b₀ : Stmt} {q1 q2 q3 pos pos' : Pos} {kk : Nat} {tb : WX → TS} {ts : TS} {Wout : WX}
theorem nm_run {a : Addr} {oe : Obj} {pn : List (Addr × Obj)} {c : Value} {x : Str} {q : Pos} {σ : L2.St} {H : Hp} {s : Shared} {Q E : Value → Shared → Prop} (I : Inv (X.suite a ((a, oe) :: pn)) [] σ H s) (hc : Names X x c) (z : Q c s) :
    wpAny (model X.prog X.w) (X.A.mark (some (.ref a))) (eval (.Name x q) X.env) Q E s := by
  obtain ⟨g, dbg, y | ⟨y, v, ne⟩⟩ := hc
  · exact ld_glob (X := X.suite a ((a, oe) :: pn)) I g y z dbg
  · exact ld_blt (X := X.suite a ((a, oe) :: pn)) I g y v z ne dbg
theorem ps_try_tup (hs : X.stack = X.env :: X.outer) (hf : X.env.frame = some X.env.locals) (n1 : Names X x1 c1) (n2 : Names X x2 c2) (tk : Takes X Wout)
    (hb : ∀ (W : WX) (pn : List (Addr × Obj)) (xe : Value → Shared → Prop), Takes (X.tr pn xe) W → PassesOwn (model X.prog X.w) X.A X.env xe → PSs (X.tr pn xe) body (tb W))
    (hsu : ∀ (a : Addr) (oe : Obj) (cls : Value) (d : Option Addr) (pn : List (Addr × Obj)), Zc cls d oe → (∃ vs, oe.data = .fields vs) → PSs (X.suite a ((a, oe) :: pn)) (b₀ :: suite) ts) :
    PS X (.Try body [.ExceptHandler (some (.Tuple [.Name x1 q1, .Name x2 q2] kk q3)) none (b₀ :: suite) pos'] [] [] pos) (fun D σ H => tb (wTup X.K c1 c2 ts Wout D) D σ H) := by
  refine ⟨fun pins s σ H D I h => ?_⟩
  have xok := I.ok
  have fr : X.A.frames = some (X.env :: X.outer) := by rw [xok.frames, hs]
  let cl : ExceptHandler := .ExceptHandler (some (.Tuple [.Name x1 q1, .Name x2 q2] kk q3)) none (b₀ :: suite) pos'
  refine wpAny_Try_except ?_
  let xe' : Value → Shared → Prop := fun u s1 => wpAny (model X.prog X.w) X.A (noteFrame u X.env)
    (fun _ s2 => wpAny (model X.prog X.w) X.A (setFlight u none) (fun _ s3 => wpAny (model X.prog X.w) X.A (handleBy u X.env [cl]) (SP X pins D) X.xe s3) X.xe s2) X.xe s1
  have tk' : Takes (X.tr (X.pn ++ pins) xe') (wTup X.K c1 c2 ts Wout D) := by
    intro u s' y
    obtain ⟨a, B, sI, pins', τ, G, cls, d, eu, J', nb, up, sky, na, os, ag, b, hb1, hyes, hno⟩ := y
    subst eu
    have J := J'.ofTry xok
    have sky : Sky B (X.env :: X.outer) a (Zc cls d) X.env.locals s'.heap := by rw [← hs]; exact sky
    show wpAny (model X.prog X.w) X.A (noteFrame (.ref a) X.env) _ _ _
    refine Sky.land Zc.steady fr hf sky fun g fg ug => ?_
    have Jg : Inv X pins τ G { s' with heap := g } := J.landed nb fg.1 (up.trans ug) os ag
    obtain ⟨og, vg, eg, zg, dg⟩ := fg.there
    have out : a ∉ frs (X.env :: X.outer) := fun hm => by
      obtain ⟨_, o, e', nf⟩ := fg.2.2.1.mem hm
      rw [eg] at e'; cases e'
      exact nf _ dg
    have nL : a ≠ X.env.locals := fun z => out (List.mem_filterMap.mpr ⟨X.env, List.mem_cons_self, by rw [hf, z]⟩)
    have nF : a ∉ X.fs := fun hm => by
      obtain ⟨e, he, q⟩ := List.mem_filterMap.mp hm
      exact out (List.mem_filterMap.mpr ⟨e, List.mem_cons_of_mem _ he, q⟩)
    have Sg := Jg.suite eg dg na nL nF
    refine wpAny_handleBy_cons (codeAny_handlers_test ?_) (by intro q; cases q)
    refine wpAny_Tuple (wpAny_items_cons (nm_run Sg n1 (wpAny_items_cons (nm_run Sg n2 (wpAny_items_nil ⟨by size_fits, ?_⟩)))))
    let g2 : Heap := g.push { cls := .type "tuple", data := .seq [c1, c2].toArray }
    have kp : ∀ b o, g.get? b = some o → g2.get? b = some o := fun _ _ z => Heap.get?_push_of_some _ z
    have f2 := flying_keeps fg kp
    have u2 : s'.heap.UpToSlots g2 := ug.trans (up_keeps kp)
    have LT : PySem.W.Looks (model X.prog X.w) g2 (typeOf (.ref a)) cls := fun A Q E s k q => wpAny_typeOf_ref (k _ _ (kp _ _ eg)) (by rw [zg.1]; exact q)
    have J2 : Inv X pins τ G { s' with heap := g2 } := J.landed nb f2.1 (up.trans u2) os ag
    refine (PySem.W.exm_tup2 (M := model X.prog X.w) J2.kIn LT (Heap.get?_push_size g rfl) hb1).here ?_
    cases b with
    | true =>
      refine codeAny_handlers_suite ?_
      refine HandSPX.lands_againZ (s := { s' with heap := g2 }) f2 fun g4 f4 u4 => ?_
      have J4 : Inv X pins τ G { s' with heap := g4 } := J.landed nb f4.1 ((up.trans u2).trans u4) os ag
      obtain ⟨o4, v4, e4, z4, d4⟩ := f4.there
      have S4 := J4.suite e4 d4 na nL nF
      refine wpAny_mono ((hsu a o4 cls d (X.pn ++ pins) z4 ⟨_, d4⟩).run [] _ _ G _ S4 (hyes rfl)) (fun f s6 z => ?_) (fun _ _ z => False.elim z)
      cases f with
      | next => exact let ⟨_, _, S6, q6⟩ := z; ⟨_, _, S6.unsuite xok, q6⟩
      | brk => exact let ⟨_, _, S6, q6⟩ := z; ⟨_, _, S6.unsuite xok, q6⟩
      | cont => exact let ⟨_, _, S6, q6⟩ := z; ⟨_, _, S6.unsuite xok, q6⟩
      | ret u => exact let ⟨_, _, _, S6, r6, q6⟩ := z; ⟨_, _, _, S6.unsuite xok, r6, q6⟩
    | false =>
      show wpAny _ X.A (handleBy (.ref a) X.env []) _ _ _
      refine wpAny_handleBy_nil ?_
      obtain ⟨_, _, _, oe, vs, T, oT, ts', he, hz, hd, h1, hr⟩ := id f2
      unfold PySem.passOn
      refine wpAny_bind (wpAny_field he hd h1 ?_)
      rw [if_neg (show ¬ ((Value.ref T == Value.none) = true) from by simp)]
      have fin : wpAny (model X.prog X.w) X.A (setFlight (.ref a) X.env.frame) (fun _ s4 => wpAny (model X.prog X.w) X.A (throw (.ref a) : Sem Flow) (SP X pins D) X.xe s4) X.xe { s' with heap := g2 } := by
        rw [hf]
        refine HandSPX.setFlight_upZ (s := { s' with heap := g2 }) f2 fun h4 hh4 up4 => wpAny_throw (tk _ _ ?_)
        exact ⟨a, B, sI, pins, τ, G, cls, d, rfl, J, nb, (up.trans u2).trans up4, .inr (.inr (by rw [hs]; exact hh4)), na, os, ag, hno rfl⟩
      first
        | exact wpAny_bind (wpAny_pure (wpAny_bind fin))
        | exact wpAny_bind fin
  refine wpAny_mono ((hb (wTup X.K c1 c2 ts Wout D) (X.pn ++ pins) xe' tk' PassesOwn.looking).run [] s σ H D (I.toTry _) h) (fun f s1 z => ?_) (fun e s1 he => he)
  cases f with
  | next => exact let ⟨_, _, J', q⟩ := z; wpAny_execs_nil ⟨_, _, J'.ofTry xok, q⟩
  | brk => exact let ⟨_, _, J', q⟩ := z; ⟨_, _, J'.ofTry xok, q⟩
  | cont => exact let ⟨_, _, J', q⟩ := z; ⟨_, _, J'.ofTry xok, q⟩
  | ret u => exact let ⟨_, _, _, J', r, q⟩ := z; ⟨_, _, _, J'.ofTry xok, r, q⟩
end
/-- of two clauses' tables, one for both -/
def clsT2 (t1 t2 : List (Addr × Bool)) : Addr → Option Bool := fun C => match clsT t1 C, clsT t2 C with
  | some a, some b => some (a || b)
  | _, _ => none
theorem clsT2_ok {K : PySem.W.Frag} {t1 t2 : List (Addr × Bool)} {c1 c2 : Value} (h1 : ∀ q ∈ t1, PySem.W.exmOne K (.ref q.1) c1 = some q.2) (h2 : ∀ q ∈ t2, PySem.W.exmOne K (.ref q.1) c2 = some q.2) :
    ∀ C b, clsT2 t1 t2 C = some b → PySem.W.exmAny K (.ref C) [c1, c2] = some b := fun C b e => by
  unfold clsT2 at e
  cases e1 : clsT t1 C with
  | none => rw [e1] at e; cases e
  | some a =>
    cases e2 : clsT t2 C with
    | none => rw [e1, e2] at e; cases e
    | some b' =>
      rw [e1, e2] at e
      cases e
      have f1 := clsT_ok h1 C a e1
      have f2 := clsT_ok h2 C b' e2
      unfold PySem.W.exmAny PySem.W.exmAny PySem.W.exmAny
      rw [f1, f2]
      cases a <;> cases b' <;> rfl
section
variable {ι : Type} {X : ι → Cx} {Wf : ι → WX} {K : PySem.W.Frag} {n : Nat} {P : Nat → Bool} {pos q1 q2 q3 pos' : Pos} {kk : Nat}
theorem ds_try2 {x1 x2 : Str} {c1 c2 : Value} {b₀ : Stmt} {body suite : List Stmt} {g h : En → Out Fl} {m : Addr → Option Bool} (hs : ∀ i, (X i).stack = (X i).env :: (X i).outer) (hf : ∀ i, (X i).env.frame = some (X i).env.locals) (hK : ∀ i, (X i).K = K) (tk : ∀ i, Takes (X i) (Wf i))
    (n1 : ∀ i, Names (X i) x1 c1) (n2 : ∀ i, Names (X i) x2 c2) (hm : ∀ C b, m C = some b → PySem.W.exmAny K (.ref C) [c1, c2] = some b)
    (hb : DSs (trF X) (trW X) K n P body g) (hh : DSs (suF X) (fun _ => W0) K n P (b₀ :: suite) h) : DS X Wf K n P (.Try body [.ExceptHandler (some (.Tuple [.Name x1 q1, .Name x2 q2] kk q3)) none (b₀ :: suite) pos'] [] [] pos) (tryD g ((m, h) :: [])) := by
  obtain ⟨t, p, r⟩ := hb.ex
  obtain ⟨t2, p2, r2⟩ := hh.ex
  refine ⟨fun W => fun D σ H => t (wTup K c1 c2 (t2 W0) W D) D σ H, fun i => by
    have := ps_try_tup (pos := pos) (pos' := pos') (q1 := q1) (q2 := q2) (q3 := q3) (kk := kk) (hs i) (hf i) (n1 i) (n2 i) (tk i) (fun W pn xe tk po => p ⟨i, W, pn, xe, tk, po⟩) (ts := t2 W0) (fun a oe cls d pn hz hf => p2 ⟨i, a, oe, cls, d, pn, hz, hf⟩)
    rw [hK i] at this
    exact this, fun W S σ H en B fi I Po => r (wTup K c1 c2 (t2 W0) W B) S σ H en B fi I ?_⟩
  unfold tryD at Po
  cases q : g en with
  | ok fl en' =>
    rw [q] at Po
    cases fl with
    | nx => exact Po
    | bk => exact Po
    | ct => exact Po
    | rt o => exact Po
  | bad => rw [q] at Po; exact Po
  | ex C fs en' =>
    rw [q] at Po
    intro σ' dO H' ws l' J xa
    have fj : Fine n P S en' := fi.to I J l'
    have Po : PoS K S W σ B (hdl ((m, h) :: []) C fs en') := Po
    unfold hdl at Po
    cases qm : m C with
    | none => rw [qm] at Po; exact Po.elim
    | some b =>
      rw [qm] at Po
      refine ⟨b, hm C b qm, fun eb => ?_, fun eb => ?_⟩
      · subst eb
        refine r2 W0 S σ' H' en' B fj (ER.sub J fun q hq => List.mem_append_right _ hq) (PoS.len ?_ l')
        cases q2 : h en' with
        | ok fl en2 =>
          simp only [q2] at Po
          cases fl with
          | nx => exact Po
          | bk => exact Po
          | ct => exact Po
          | rt o => exact Po
        | ex C' fs' en2 => simp only [q2] at Po; exact Po.elim
        | bad => simp only [q2] at Po; exact Po.elim
      · subst eb
        have Po : PoS K S W σ B (.ex C fs en') := Po
        exact Po σ' dO H' ws l' J xa
end
end Dn
/-! name += a tuple, a text. -/
namespace Dn
open PySem PySem.Spec PyProof.Rows L2
theorem noI_tuple : typeLookup (.type "tuple") (dunderI "add") = pure none := by rw [typeLookup_type, builtinLookup_eq_fast]; kernel_rfl
section
variable {prog : Program} {w : World} {A : Around} {E : Value → Shared → Prop} {s : Shared}
theorem icat {t b : Addr} {vs ws : List Value} {Q : Value → Shared → Prop} (ht : PyProof.Rows.IsTup s.heap t vs.toArray) (hb : PyProof.Rows.IsTup s.heap b ws.toArray) (h0 : vs = [] → Q (.ref b) s)
    (h1 : vs ≠ [] → ws = [] → Q (.ref t) s) (h2 : vs ≠ [] → ws ≠ [] → Q (.ref s.heap.objs.size) { s with heap := s.heap.push { cls := .type "tuple", data := .seq (vs ++ ws).toArray } })
    (hz : vs.length + ws.length ≤ sizeLine) : wpAny (model prog w) A (inplaceOp .Add (.ref t) (.ref b)) Q E s := by
  obtain ⟨⟨c1, e1, d1, s1⟩, o1, k1, n1, q1⟩ := id ht
  obtain ⟨⟨c2, e2, d2, s2⟩, o2, k2, n2, q2⟩ := id hb
  simp only at k1 q1 k2 q2
  subst k1 q1 k2 q2
  refine wpAny_inplaceOp_concat ⟨_, o1, rfl⟩ ⟨_, o2, rfl⟩ noI_tuple noFill_tuple_add seq_tuple_add ?_
  by_cases hv : vs = []
  · exact call_meets PySem.F.slot_tuple_add ⟨_, o1, rfl⟩ PySem.F.entry_tuple_add (PySem.F.args_tuple_add_2 _ _)
      (tuple_addW0 t b vs.toArray ws.toArray n1 n2 e1 e2 s1 s2 (by simp [hv])) ⟨o1, o2, h0 hv⟩
  · by_cases hw : ws = []
    · exact call_meets PySem.F.slot_tuple_add ⟨_, o1, rfl⟩ PySem.F.entry_tuple_add (PySem.F.args_tuple_add_2 _ _)
        (tuple_addW1 t b vs.toArray ws.toArray n1 n2 e1 e2 s1 s2 (by simpa using hv) (by simp [hw])) ⟨o1, o2, h1 hv hw⟩
    · refine call_meets PySem.F.slot_tuple_add ⟨_, o1, rfl⟩ PySem.F.entry_tuple_add (PySem.F.args_tuple_add_2 _ _)
        (tuple_addW2 t b vs.toArray ws.toArray n1 n2 e1 e2 s1 s2 (by simpa using hv) (by simpa using hw) (by rw [List.size_toArray, List.size_toArray]; exact hz)) ⟨o1, o2, ?_⟩
      have ee : vs.toArray ++ ws.toArray = (vs ++ ws).toArray := by simp
      rw [ee]
      exact h2 hv hw
end
theorem iop_catA {X : Cx} : OpR X (inplaceOp .Add) (rCatA X.K) := by
  intro pins s σ H x y v u Q I rx ry h
  obtain ⟨a, b, xs, ys, rfl, rfl, ha, hb, hz, q0, q1, q2⟩ := h
  cases rx
  cases ry
  obtain ⟨its, r1, p1, _⟩ := I.tuple ha
  obtain ⟨its2, r2, p2, _⟩ := I.tuple hb
  refine icat p1 p2 (fun z => ⟨.ref b, H, I, rfl, q0 (r1.nil_iff.mp z)⟩) (fun y z => ⟨.ref a, H, I, rfl, q1 (fun w => y (r1.nil_iff.mpr w)) (r2.nil_iff.mp z)⟩) (fun y z => ?_) (by rw [← r1.length, ← r2.length]; exact hz)
  refine ⟨.ref s.heap.objs.size, _, I.laid (t' := s.toks) (o := .tup (xs ++ ys)) (fun b ob q => Heap.get?_push_of_some _ q) (Nat.le_refl _) ?_, rfl, q2 (fun w => y (r1.nil_iff.mpr w)) (fun w => z (r2.nil_iff.mpr w)) _ (I.hok.fresh (Nat.le_refl _))⟩
  exact ⟨by rw [List.length_append]; exact hz, _, r1.append r2, PyProof.Rows.IsTup.new _ _⟩
def augG : D → D → Option D
  | .int i, .int j => some (.int (i + j))
  | .str x, .str y => if x.length + y.length ≤ 16777216 then some (.str (x ++ y)) else none
  | .tup xs, .tup ys => if xs.length + ys.length ≤ 16777216 then some (.tup (xs ++ ys)) else none
  | _, _ => none
def rAugAny (K : PySem.W.Frag) : R2 := fun x y H Q => ((rI0 fun i j => .int (i + j)) x y H Q ∨ rStrs x y H Q) ∨ rCatA K x y H Q
theorem iop_augAny {X : Cx} : OpR X (inplaceOp .Add) (rAugAny X.K) := (iop_add.or iop_add_str).or iop_catA
theorem ok_augG {K : PySem.W.Frag} : Ok2 K (rAugAny K) augG := fun H Lv x y d e c Q mu r1 r2 ec q => by
  cases d <;> cases e <;> first
    | exact .inl (.inl (ok_rI0 (K := K) (g := fun i j => i + j) H Lv x y _ _ c Q mu r1 r2 ec q))
    | exact .inl (.inr (ok_addS H Lv x y _ _ c Q mu r1 r2 ec q))
    | exact .inr (ok_addT H Lv x y _ _ c Q mu r1 r2 ec q)
    | cases ec
theorem g_augI {i j : Int} : augG (.int i) (.int j) = some (.int (i + j)) := rfl
theorem g_augT {xs ys : List D} : augG (.tup xs) (.tup ys) = if xs.length + ys.length ≤ 16777216 then some (.tup (xs ++ ys)) else none := rfl
end Dn
/-! Texts by their signs' numbers. -/
namespace Dn
open PySem PySem.Spec PyProof.Rows L2
def sT (l : List Nat) : Str := ⟨l.toArray⟩
theorem sT_len (l : List Nat) : (sT l).length = l.length := by show l.toArray.size = _; simp
theorem sT_app (a b : List Nat) : sT a ++ sT b = sT (a ++ b) := by show Str.mk (a.toArray ++ b.toArray) = _; simp [sT]
theorem sT_inj {a b : List Nat} : sT a = sT b ↔ a = b := ⟨fun h => by unfold sT at h; simpa using h, fun h => by rw [h]⟩
theorem sT_signs (l : List Nat) : signsD (sT l) = l.map fun c => .str (sT [c]) := by unfold signsD sT; simp
theorem sT_ix {l : List Nat} {i : Int} (h0 : 0 ≤ i) : ixG (.str (sT l)) (.int i) = (l[i.toNat]?).map fun c => .str (sT [c]) := by
  show (atI (l.toArray).toList i).map _ = _
  rw [x_atI h0]
  simp [sT]
theorem sT_cut1 (l : List Nat) (h : 1 ≤ l.length) : slA (.str (sT l)) (some 1) none = some (.str (sT (l.drop 1))) := by
  show some (D.str (cutS (sT l) (some 1) none)) = _
  congr 2
  unfold cutS
  have e1 : HT.sIx (sT l).length 0 (some 1) = 1 := by rw [sT_len]; unfold HT.sIx; simp only; split <;> omega
  have e2 : HT.sIx (sT l).length (sT l).length none = l.length := by rw [sT_len]; rfl
  rw [e1, e2]
  unfold sT
  congr 1
  simp only [List.toList_toArray]
  rw [List.take_of_length_le (by rw [List.length_drop]; omega)]
theorem subAt_one (l : List Nat) (c i : Nat) (h : i < l.length) : Builtin.Str.subAt (sT l) (sT [c]) i = (l[i] == c) := by
  unfold Builtin.Str.subAt sT
  simp only [Str.length]
  show (l.toArray.extract i (i + 1) == #[c]) = _
  have : l.toArray.extract i (i + 1) = #[l[i]] := by
    rw [List.extract_toArray, List.extract_eq_take_drop, Nat.add_sub_cancel_left, List.drop_eq_getElem_cons h]
    rfl
  rw [this]
  simp
theorem count_go (l : List Nat) (c : Nat) : ∀ (n i : Nat) (st : Array Nat × Nat), i + n = l.length + 1 → st.1.size ≤ i → st.2 ≤ i →
    (forIn (m := Id) (List.range' i n) st fun i (st : Array Nat × Nat) => if (decide (st.1.size < l.length + 1) && decide (st.2 ≤ i) && decide (i + 1 ≤ l.length) && Builtin.Str.subAt (sT l) (sT [c]) i) = true then
      pure (ForInStep.yield (st.1.push i, i + 1)) else pure (ForInStep.yield (st.1, st.2))).1.size = st.1.size + (l.drop i).count c
  | 0, i, st, h, _, _ => by
    rw [List.drop_of_length_le (by omega)]
    rfl
  | n + 1, i, st, h, h1, h2 => by
    rw [List.range'_succ, List.forIn_cons]
    by_cases hi : i < l.length
    · have e1 : decide (st.1.size < l.length + 1) = true := decide_eq_true (by omega)
      have e2 : decide (st.2 ≤ i) = true := decide_eq_true h2
      have e3 : decide (i + 1 ≤ l.length) = true := decide_eq_true (by omega)
      rw [e1, e2, e3, subAt_one l c i hi, List.drop_eq_getElem_cons hi, List.count_cons]
      by_cases q : l[i] = c
      · have q2 : (l[i] == c) = true := by simp [q]
        rw [q2]
        have := count_go l c n (i + 1) (st.1.push i, i + 1) (by omega) (by simp; omega) (by simp)
        simp only [Array.size_push] at this
        refine Eq.trans this ?_
        simp
        omega
      · have q2 : (l[i] == c) = false := by simp [q]
        rw [q2]
        have := count_go l c n (i + 1) (st.1, st.2) (by omega) (by simp only; omega) (by simp only; omega)
        refine Eq.trans this ?_
        simp
    · have e3 : decide (i + 1 ≤ l.length) = false := decide_eq_false (by omega)
      rw [e3]
      have := count_go l c n (i + 1) (st.1, st.2) (by omega) (by simp only; omega) (by simp only; omega)
      simp only [Bool.and_false, Bool.false_and]
      refine Eq.trans this ?_
      rw [List.drop_of_length_le (by omega), List.drop_of_length_le (by omega)]
theorem count_one (l : List Nat) (c : Nat) : Txt.count (sT l) (sT [c]) = (l.count c : Nat) := by
  unfold Txt.count
  congr 1
  unfold Builtin.Str.occurrences
  simp only [Id.run]
  rw [sT_len]
  have one : (sT [c]).length = 1 := rfl
  rw [one]
  rw [Std.Legacy.Range.forIn_eq_forIn_range']
  simp only [Std.Legacy.Range.size, Nat.sub_zero, Nat.add_sub_cancel, Nat.div_one]
  have := count_go l c (l.length + 1) 0 (#[], 0) (by omega) (by simp) (by simp)
  simp only [List.drop_zero, Array.size_empty, Nat.zero_add] at this
  refine Eq.trans ?_ this
  rw [← Array.length_toList]
  rfl
end Dn
namespace Dn
open PySem PySem.Spec PyProof.Rows L2
/-- a comprehension of one test, whose slots stay as the target left them -/
theorem comp_if {asg : D → En → Option En} {tt : En → Out Bool} {f : En → Out D} {vs : List Nat} {E0 : En} {res : D → Option D} (ds : List D) (en : En) (h : wipeE en vs = E0)
    (st : ∀ d ∈ ds, ∃ (E1 : En) (b : Bool) (y : D), asg d E0 = some E1 ∧ tt E1 = .ok b E1 ∧ (b = true → f E1 = .ok y E1) ∧ wipeE E1 vs = E0 ∧ res d = if b = true then some y else none) :
    ∃ en', compD asg tt f vs ds [] en = .ok (ds.filterMap res) en' ∧ wipeE en' vs = E0 := by
  have := compD_map (asg := asg) (tt := tt) (f := f) (vs := vs) (E0 := E0) (res := res) ds [] en h fun d hd => by
    obtain ⟨E1, b, y, h1, h2, h3, h4, h5⟩ := st d hd
    cases b with
    | false =>
      refine ⟨fun _ => ⟨E1, E1, h1, h2, h4⟩, fun z hz => ?_⟩
      rw [h5] at hz; cases hz
    | true =>
      refine ⟨fun hn => ?_, fun z hz => ⟨E1, E1, E1, h1, h2, ?_, h4⟩⟩
      · rw [h5] at hn; cases hn
      · rw [h5] at hz; cases hz; exact h3 rfl
  simpa using this
end Dn
namespace Dn
open PySem PySem.Spec PyProof.Rows L2
theorem comp_any {asg : D → En → Option En} {tt : En → Out Bool} {f : En → Out D} {vs : List Nat} {E0 : En} : ∀ (ds acc : List D) (en : En), wipeE en vs = E0 →
    (∀ d ∈ ds, ∃ (E1 E2 : En) (b : Bool), asg d E0 = some E1 ∧ tt E1 = .ok b E2 ∧ wipeE E2 vs = E0 ∧ (b = true → ∃ y E3, f E2 = .ok y E3 ∧ wipeE E3 vs = E0)) →
    ∃ acc' en', compD asg tt f vs ds acc en = .ok acc' en' ∧ wipeE en' vs = E0
  | [], acc, en, h, _ => ⟨acc, en, rfl, h⟩
  | d :: ds, acc, en, h, st => by
    obtain ⟨E1, E2, b, h1, h2, h3, h4⟩ := st d List.mem_cons_self
    have rest := fun d hd => st d (List.mem_cons_of_mem _ hd)
    cases b with
    | false =>
      obtain ⟨acc', en', e, w⟩ := comp_any ds acc E2 h3 rest
      exact ⟨acc', en', by simp only [compD, h, h1, h2, e], w⟩
    | true =>
      obtain ⟨y, E3, h5, h6⟩ := h4 rfl
      obtain ⟨acc', en', e, w⟩ := comp_any ds (acc ++ [y]) E3 h6 rest
      exact ⟨acc', en', by simp only [compD, h, h1, h2, h5, e], w⟩
end Dn
namespace Lw
open PySem PySem.Spec PyProof.Rows L2 Dn
def top (i : Nat) : Stmt := PySem.Challenge.pw_allbrought_k26_whole_changes_of_rows.main.body.getD i (.Pass ⟨0, 0, 0, 0⟩)
/-- where the classes stand -/
structure Ads where
  BadChange : Addr
  BadRow : Addr
  NoNumber : Addr
  NoRow : Addr
def ct_BadChange (A : Ads) : List (Addr × Bool) := [(A.BadChange, true), (A.BadRow, false), (A.NoNumber, false), (A.NoRow, false)]
def ct_BadRow (A : Ads) : List (Addr × Bool) := [(A.BadChange, false), (A.BadRow, true), (A.NoNumber, false), (A.NoRow, false)]
def ct_NoRow (A : Ads) : List (Addr × Bool) := [(A.BadChange, false), (A.BadRow, false), (A.NoNumber, false), (A.NoRow, true)]
/-- unlike classes stand at unlike places -/
structure Dist (A : Ads) : Prop where
  d_BadRow_BadChange : A.BadRow ≠ A.BadChange
  d_NoNumber_BadChange : A.NoNumber ≠ A.BadChange
  d_NoRow_BadChange : A.NoRow ≠ A.BadChange
  d_BadChange_BadRow : A.BadChange ≠ A.BadRow
  d_NoNumber_BadRow : A.NoNumber ≠ A.BadRow
  d_NoRow_BadRow : A.NoRow ≠ A.BadRow
  d_BadChange_NoRow : A.BadChange ≠ A.NoRow
  d_BadRow_NoRow : A.BadRow ≠ A.NoRow
  d_NoNumber_NoRow : A.NoNumber ≠ A.NoRow
/-- what the top of the text has written -/
structure Txt (K : PySem.W.Frag) (mg : Str → Option Value) (A : Ads) where
  z_all : mg "all" = none
  z_bool : mg "bool" = none
  z_enumerate : mg "enumerate" = none
  z_int : mg "int" = none
  z_isinstance : mg "isinstance" = none
  z_len : mg "len" = none
  z_list : mg "list" = none
  z_max : mg "max" = none
  z_min : mg "min" = none
  z_range : mg "range" = none
  z_str : mg "str" = none
  z_tuple : mg "tuple" = none
  z_zip : mg "zip" = none
  tk_BYTES : Tok
  c_BYTES : mg "BYTES" = some (.int 256 tk_BYTES)
  tk_KEEP : Tok
  c_KEEP : mg "KEEP" = some (.int 0 tk_KEEP)
  tk_LEAVE_OUT : Tok
  c_LEAVE_OUT : mg "LEAVE_OUT" = some (.int 1 tk_LEAVE_OUT)
  tk_MOST_BYTES : Tok
  c_MOST_BYTES : mg "MOST_BYTES" = some (.int 300000 tk_MOST_BYTES)
  tk_MOST_FIGURES : Tok
  c_MOST_FIGURES : mg "MOST_FIGURES" = some (.int 10 tk_MOST_FIGURES)
  tk_PUT_IN : Tok
  c_PUT_IN : mg "PUT_IN" = some (.int 2 tk_PUT_IN)
  tk_WHOLES : Tok
  c_WHOLES : mg "WHOLES" = some (.int 18446744073709551616 tk_WHOLES)
  e_NoNumber : Er K mg "NoNumber" A.NoNumber
  e_NoRow : Er K mg "NoRow" A.NoRow
  gg_BadChange : mg "BadChange" = some (.ref A.BadChange)
  gg_BadRow : mg "BadRow" = some (.ref A.BadRow)
  gg_NoRow : mg "NoRow" = some (.ref A.NoRow)
  xf_BadChange : XfC K A.BadChange
  xn_BadChange_place : PySem.W.findIn K (.ref A.BadChange) "place" = some none
  x_BadChange : ∀ q ∈ ct_BadChange A, PySem.W.exmOne K (.ref q.1) (.ref A.BadChange) = some q.2
  x_BadRow : ∀ q ∈ ct_BadRow A, PySem.W.exmOne K (.ref q.1) (.ref A.BadRow) = some q.2
  x_NoRow : ∀ q ∈ ct_NoRow A, PySem.W.exmOne K (.ref q.1) (.ref A.NoRow) = some q.2
noncomputable section
variable {P : Program} {w : World} {K : PySem.W.Frag} {mg : Str → Option Value} {base : Heap} {A : Ads}
abbrev s_law_hand : Stmt := (top 30)
abbrev N_law_hand : List Str := ["script"]
theorem sc_law_hand : FnScope N_law_hand ["script"] (defScope s_law_hand) := ⟨rfl, rfl, rfl, by decide +kernel, rfl, by decide +kernel, by decide +kernel⟩
def b_law_hand (A : Ads) : En → Out Fl := retF (lstF (consA (tA (viewD (opNF (on1 lstS) (consA (slotA 0) (nilA))))) (consA (tA (cD (.int 0))) (consA (tA (cD (.int 0))) (consA (tA (cD (.int 1))) (consA (tA (cD (.int 0))) (nilA)))))))
def d_law_hand (A : Ads) : Fn := fnD (b_law_hand A) 1 [true]
theorem ok_law_hand {f : Addr} {fd : FuncData} (T : Txt K mg A) (F : L2.Fun K "_law_hand" "_law_hand" s_law_hand f fd) : FnOk P w K mg base (L2.CX P w) 1 f fd ["script"] (SpD K (d_law_hand A)) :=
  fn_ok F sc_law_hand rfl fun cdv AA outer s H E hr => dss_one (ds_ret (df_lst (das_cons (da_t (de_of_df (df_opN ok_list (das_cons (da_s (fun _ => pv 0)) (das_nil)) (fun _ _ p => pe_callTy call_list_of (by rfl) T.z_list (by decide +kernel) p)))) (das_cons (da_t (de_int)) (das_cons (da_t (de_int)) (das_cons (da_t (de_int)) (das_cons (da_t (de_int)) (das_nil))))))))
abbrev s_law_take : Stmt := (top 31)
abbrev N_law_take : List Str := ["hand", "many", "cell", "found", "number"]
theorem sc_law_take : FnScope N_law_take ["hand", "many"] (defScope s_law_take) := ⟨rfl, rfl, rfl, by decide +kernel, rfl, by decide +kernel, by decide +kernel⟩
def b_law_take (A : Ads) : En → Out Fl := seqD (setI 0 (op2 addG (tA (op2 ixG (slotA 0) (tA (cD (.int 4))))) (tA (cD (.int 1)))) (tA (cD (.int 4))))
  (seqD (ifD (andT (tstD (op2 eqA (tA (op2 ixG (slotA 0) (tA (cD (.int 2))))) (tA (cD (.int 0))))) (tstD (op2 ltI (tA (op2 ixG (slotA 0) (tA (cD (.int 1))))) (tA (opN (on1 lenS) (consA (tA (op2 ixG (slotA 0) (tA (cD (.int 0))))) (nilA))))))) (seqD (setD 2 (opN (on1 intS) (consA (tA (op2 ixG (tA (op2 ixG (slotA 0) (tA (cD (.int 0))))) (tA (op2 ixG (slotA 0) (tA (cD (.int 1))))))) (nilA))))
  (seqD (setI 0 (op2 addG (tA (op2 ixG (slotA 0) (tA (cD (.int 1))))) (tA (cD (.int 1)))) (tA (cD (.int 1))))
  (ifD (tstD (op2 geI (slotA 2) (tA (op2 powI (tA (cD (.int 10))) (tA (cD (.int 18))))))) (setI 0 (slotD 2) (tA (cD (.int 2)))) (setI 0 (op2 modI (tA (opN (on1 intS) (consA (tA (op2 addG (tA (op2 addG (tA (op2 mulI (tA (op2 ixG (slotA 0) (tA (cD (.int 3))))) (tA (cD (.int 48271))))) (tA (op2 modI (tA (opN (on1 intS) (consA (slotA 2) (nilA)))) (tA (cD (.int 2147483647))))))) (tA (cD (.int 1))))) (nilA)))) (tA (cD (.int 2147483647)))) (tA (cD (.int 3))))))) (nxD))
  (seqD (ifD (tstD (op2 gtI (tA (op2 ixG (slotA 0) (tA (cD (.int 2))))) (tA (cD (.int 0))))) (seqD (setD 3 (op2 modI (tA (opN (on1 intS) (consA (tA (op2 ixG (slotA 0) (tA (cD (.int 2))))) (nilA)))) (slotA 1)))
  (seqD (setI 0 (op2 divI (tA (opN (on1 intS) (consA (tA (op2 ixG (slotA 0) (tA (cD (.int 2))))) (nilA)))) (slotA 1)) (tA (cD (.int 2))))
  (retF (valO (slotD 3))))) (nxD))
  (seqD (setI 0 (op2 modI (tA (opN (on1 intS) (consA (tA (op2 addG (tA (op2 mulI (tA (op2 ixG (slotA 0) (tA (cD (.int 3))))) (tA (cD (.int 69621))))) (tA (op2 mulI (tA (cD (.int 7919))) (tA (op2 ixG (slotA 0) (tA (cD (.int 4))))))))) (nilA)))) (tA (cD (.int 2147483647)))) (tA (cD (.int 3))))
  (seqD (setD 4 (op2 modI (tA (opN (on1 intS) (consA (tA (op2 mulI (tA (op2 ixG (slotA 0) (tA (cD (.int 3))))) (tA (op2 addG (tA (op2 divI (tA (op2 ixG (slotA 0) (tA (cD (.int 3))))) (tA (cD (.int 1009))))) (tA (cD (.int 69621))))))) (nilA)))) (tA (cD (.int 2147483647)))))
  (seqD (setD 4 (op2 modI (tA (opN (on1 intS) (consA (tA (op2 mulI (slotA 4) (tA (op2 addG (tA (op2 divI (slotA 4) (tA (cD (.int 2003))))) (tA (cD (.int 40692))))))) (nilA)))) (tA (cD (.int 2147483399)))))
  (retF (valO (op2 modI (tA (opN (on1 intS) (consA (tA (op2 divI (slotA 4) (tA (cD (.int 16))))) (nilA)))) (slotA 1)))))))))
def d_law_take (A : Ads) : Fn := fnD (b_law_take A) 5 [true, true]
theorem ok_law_take {f : Addr} {fd : FuncData} (T : Txt K mg A) (F : L2.Fun K "_law_take" "_law_take" s_law_take f fd) : FnOk P w K mg base (L2.CX P w) 1 f fd ["hand", "many"] (SpD K (d_law_take A)) :=
  fn_ok F sc_law_take rfl fun cdv AA outer s H E hr => dss_cons (ds_seti (j := 0) (de_op2 ok_addG (da_t (de_op2 ok_ix (da_s (fun _ => pv 0)) (da_t (de_int)) (fun _ _ _ p q => pe_ix ix_seq p q (fun _ _ => rfl)))) (da_t (de_int)) (fun _ _ _ p q => pe_op op_addAny p q)) (da_t (de_int)) (fun _ _ _ _ _ _ => trivial) (fun _ _ _ p q => ps_asg p (pg_sub (pv 0) q set_list)) (by decide))
  (dss_cons (ds_if (dt_w (dw_and (dt_op2 ok_eqA (da_t (de_op2 ok_ix (da_s (fun _ => pv 0)) (da_t (de_int)) (fun _ _ _ p q => pe_ix ix_seq p q (fun _ _ => rfl)))) (da_t (de_int)) (fun _ _ _ p q => pt_cmpR (op_eqAny hr) p q (nomark _))) (dw_and1 (dt_op2 ok_rI0b (da_t (de_op2 ok_ix (da_s (fun _ => pv 0)) (da_t (de_int)) (fun _ _ _ p q => pe_ix ix_seq p q (fun _ _ => rfl)))) (da_t (de_opN ok_len (das_cons (da_t (de_op2 ok_ix (da_s (fun _ => pv 0)) (da_t (de_int)) (fun _ _ _ p q => pe_ix ix_seq p q (fun _ _ => rfl)))) (das_nil)) (fun _ _ p => pe_callB call_len (by rfl) T.z_len (by decide +kernel) p))) (fun _ _ _ p q => pt_cmpR op_lt p q (nomark _)))))) (dss_cons (ds_set (by decide) (by rfl) (de_opN ok_int (das_cons (da_t (de_op2 ok_ix (da_t (de_op2 ok_ix (da_s (fun _ => pv 0)) (da_t (de_int)) (fun _ _ _ p q => pe_ix ix_seq p q (fun _ _ => rfl)))) (da_t (de_op2 ok_ix (da_s (fun _ => pv 0)) (da_t (de_int)) (fun _ _ _ p q => pe_ix ix_seq p q (fun _ _ => rfl)))) (fun _ _ _ p q => pe_ix ix_seq p q (fun _ _ => rfl)))) (das_nil)) (fun _ _ p => pe_callTy call_int1 (by rfl) T.z_int (by decide +kernel) p)) (fun _ _ p => ps_set (i := 2) sc_law_take.nd rfl (.inl rfl) p))
  (dss_cons (ds_seti (j := 0) (de_op2 ok_addG (da_t (de_op2 ok_ix (da_s (fun _ => pv 0)) (da_t (de_int)) (fun _ _ _ p q => pe_ix ix_seq p q (fun _ _ => rfl)))) (da_t (de_int)) (fun _ _ _ p q => pe_op op_addAny p q)) (da_t (de_int)) (fun _ _ _ _ _ _ => trivial) (fun _ _ _ p q => ps_asg p (pg_sub (pv 0) q set_list)) (by decide))
  (dss_one (ds_if (dt_op2 ok_rI0b (da_s (fun _ => pv 2)) (da_t (de_op2 ok_pow (da_t (de_int)) (da_t (de_int)) (fun _ _ _ p q => pe_op op_pow p q))) (fun _ _ _ p q => pt_cmpR op_ge p q (nomark _))) (dss_one (ds_seti (j := 0) (de_v (fun _ => pv 2)) (da_t (de_int)) (fun _ _ _ _ _ _ => trivial) (fun _ _ _ p q => ps_asg p (pg_sub (pv 0) q set_list)) (by decide))) (dss_one (ds_seti (j := 0) (de_op2 ok_mod (da_t (de_opN ok_int (das_cons (da_t (de_op2 ok_addG (da_t (de_op2 ok_addG (da_t (de_op2 ok_mul (da_t (de_op2 ok_ix (da_s (fun _ => pv 0)) (da_t (de_int)) (fun _ _ _ p q => pe_ix ix_seq p q (fun _ _ => rfl)))) (da_t (de_int)) (fun _ _ _ p q => pe_op op_mul p q))) (da_t (de_op2 ok_mod (da_t (de_opN ok_int (das_cons (da_s (fun _ => pv 2)) (das_nil)) (fun _ _ p => pe_callTy call_int1 (by rfl) T.z_int (by decide +kernel) p))) (da_t (de_int)) (fun _ _ _ p q => pe_op op_mod p q))) (fun _ _ _ p q => pe_op op_addAny p q))) (da_t (de_int)) (fun _ _ _ p q => pe_op op_addAny p q))) (das_nil)) (fun _ _ p => pe_callTy call_int1 (by rfl) T.z_int (by decide +kernel) p))) (da_t (de_int)) (fun _ _ _ p q => pe_op op_mod p q)) (da_t (de_int)) (fun _ _ _ _ _ _ => trivial) (fun _ _ _ p q => ps_asg p (pg_sub (pv 0) q set_list)) (by decide))))))) (dss_nil))
  (dss_cons (ds_if (dt_op2 ok_rI0b (da_t (de_op2 ok_ix (da_s (fun _ => pv 0)) (da_t (de_int)) (fun _ _ _ p q => pe_ix ix_seq p q (fun _ _ => rfl)))) (da_t (de_int)) (fun _ _ _ p q => pt_cmpR op_gt p q (nomark _))) (dss_cons (ds_set (by decide) (by rfl) (de_op2 ok_mod (da_t (de_opN ok_int (das_cons (da_t (de_op2 ok_ix (da_s (fun _ => pv 0)) (da_t (de_int)) (fun _ _ _ p q => pe_ix ix_seq p q (fun _ _ => rfl)))) (das_nil)) (fun _ _ p => pe_callTy call_int1 (by rfl) T.z_int (by decide +kernel) p))) (da_s (fun _ => pv 1)) (fun _ _ _ p q => pe_op op_mod p q)) (fun _ _ p => ps_set (i := 3) sc_law_take.nd rfl (.inl rfl) p))
  (dss_cons (ds_seti (j := 0) (de_op2 ok_div (da_t (de_opN ok_int (das_cons (da_t (de_op2 ok_ix (da_s (fun _ => pv 0)) (da_t (de_int)) (fun _ _ _ p q => pe_ix ix_seq p q (fun _ _ => rfl)))) (das_nil)) (fun _ _ p => pe_callTy call_int1 (by rfl) T.z_int (by decide +kernel) p))) (da_s (fun _ => pv 1)) (fun _ _ _ p q => pe_op op_fdivW p q)) (da_t (de_int)) (fun _ _ _ _ _ _ => trivial) (fun _ _ _ p q => ps_asg p (pg_sub (pv 0) q set_list)) (by decide))
  (dss_one (ds_ret (df_of_de (de_v (fun _ => pv 3))))))) (dss_nil))
  (dss_cons (ds_seti (j := 0) (de_op2 ok_mod (da_t (de_opN ok_int (das_cons (da_t (de_op2 ok_addG (da_t (de_op2 ok_mul (da_t (de_op2 ok_ix (da_s (fun _ => pv 0)) (da_t (de_int)) (fun _ _ _ p q => pe_ix ix_seq p q (fun _ _ => rfl)))) (da_t (de_int)) (fun _ _ _ p q => pe_op op_mul p q))) (da_t (de_op2 ok_mul (da_t (de_int)) (da_t (de_op2 ok_ix (da_s (fun _ => pv 0)) (da_t (de_int)) (fun _ _ _ p q => pe_ix ix_seq p q (fun _ _ => rfl)))) (fun _ _ _ p q => pe_op op_mul p q))) (fun _ _ _ p q => pe_op op_addAny p q))) (das_nil)) (fun _ _ p => pe_callTy call_int1 (by rfl) T.z_int (by decide +kernel) p))) (da_t (de_int)) (fun _ _ _ p q => pe_op op_mod p q)) (da_t (de_int)) (fun _ _ _ _ _ _ => trivial) (fun _ _ _ p q => ps_asg p (pg_sub (pv 0) q set_list)) (by decide))
  (dss_cons (ds_set (by decide) (by rfl) (de_op2 ok_mod (da_t (de_opN ok_int (das_cons (da_t (de_op2 ok_mul (da_t (de_op2 ok_ix (da_s (fun _ => pv 0)) (da_t (de_int)) (fun _ _ _ p q => pe_ix ix_seq p q (fun _ _ => rfl)))) (da_t (de_op2 ok_addG (da_t (de_op2 ok_div (da_t (de_op2 ok_ix (da_s (fun _ => pv 0)) (da_t (de_int)) (fun _ _ _ p q => pe_ix ix_seq p q (fun _ _ => rfl)))) (da_t (de_int)) (fun _ _ _ p q => pe_op op_fdivW p q))) (da_t (de_int)) (fun _ _ _ p q => pe_op op_addAny p q))) (fun _ _ _ p q => pe_op op_mul p q))) (das_nil)) (fun _ _ p => pe_callTy call_int1 (by rfl) T.z_int (by decide +kernel) p))) (da_t (de_int)) (fun _ _ _ p q => pe_op op_mod p q)) (fun _ _ p => ps_set (i := 4) sc_law_take.nd rfl (.inl rfl) p))
  (dss_cons (ds_set (by decide) (by rfl) (de_op2 ok_mod (da_t (de_opN ok_int (das_cons (da_t (de_op2 ok_mul (da_s (fun _ => pv 4)) (da_t (de_op2 ok_addG (da_t (de_op2 ok_div (da_s (fun _ => pv 4)) (da_t (de_int)) (fun _ _ _ p q => pe_op op_fdivW p q))) (da_t (de_int)) (fun _ _ _ p q => pe_op op_addAny p q))) (fun _ _ _ p q => pe_op op_mul p q))) (das_nil)) (fun _ _ p => pe_callTy call_int1 (by rfl) T.z_int (by decide +kernel) p))) (da_t (de_int)) (fun _ _ _ p q => pe_op op_mod p q)) (fun _ _ p => ps_set (i := 4) sc_law_take.nd rfl (.inl rfl) p))
  (dss_one (ds_ret (df_of_de (de_op2 ok_mod (da_t (de_opN ok_int (das_cons (da_t (de_op2 ok_div (da_s (fun _ => pv 4)) (da_t (de_int)) (fun _ _ _ p q => pe_op op_fdivW p q))) (das_nil)) (fun _ _ p => pe_callTy call_int1 (by rfl) T.z_int (by decide +kernel) p))) (da_s (fun _ => pv 1)) (fun _ _ _ p q => pe_op op_mod p q))))))))))
abbrev s_law_pick : Stmt := (top 32)
abbrev N_law_pick : List Str := ["hand", "things"]
theorem sc_law_pick : FnScope N_law_pick ["hand", "things"] (defScope s_law_pick) := ⟨rfl, rfl, rfl, by decide +kernel, rfl, by decide +kernel, by decide +kernel⟩
def b_law_pick (A : Ads) : En → Out Fl := retF (valO (op2 ixG (slotA 1) (tA (viewD (callD (d_law_take A) (consA (slotA 0) (consA (tA (opN (on1 lenS) (consA (slotA 1) (nilA)))) (nilA))))))))
def d_law_pick (A : Ads) : Fn := fnD (b_law_pick A) 2 [true, true]
theorem ok_law_pick {f : Addr} {fd : FuncData} (T : Txt K mg A) (F : L2.Fun K "_law_pick" "_law_pick" s_law_pick f fd) (K_law_take : Kn P w K mg base "_law_take" 1 ["hand", "many"] (d_law_take A)) : FnOk P w K mg base (L2.CX P w) 2 f fd ["hand", "things"] (SpD K (d_law_pick A)) :=
  fn_ok F sc_law_pick rfl fun cdv AA outer s H E hr => dss_one (ds_ret (df_of_de (de_op2 ok_ix (da_s (fun _ => pv 1)) (da_t (de_of_df (df_kn K_law_take (fun _ => ⟨rfl, rfl, rfl, rfl, rfl⟩) (fun _ => hr.mono (by decide)) (fun _ => by rfl) (fun _ => takes_of rfl rfl rfl rfl) (das_cons (da_s (fun _ => pv 0)) (das_cons (da_t (de_opN ok_len (das_cons (da_s (fun _ => pv 1)) (das_nil)) (fun _ _ p => pe_callB call_len (by rfl) T.z_len (by decide +kernel) p))) (das_nil)))))) (fun _ _ _ p q => pe_ix ix_seq p q (fun _ _ => rfl)))))
abbrev s_law_bytes : Stmt := (top 39)
abbrev N_law_bytes : List Str := ["hand", "most", "found", "k"]
theorem sc_law_bytes : FnScope N_law_bytes ["hand", "most"] (defScope s_law_bytes) := ⟨rfl, rfl, rfl, by decide +kernel, rfl, by decide +kernel, by decide +kernel⟩
def b_law_bytes_l0 (A : Ads) : En → Out Fl := appD 2 (viewD (callD (d_law_pick A) (consA (slotA 0) (consA (tA (viewD (lstF (consA (tA (cD (.int 0))) (consA (tA (cD (.int 1))) (consA (tA (cD (.int 2))) (consA (tA (cD (.int 3))) (consA (tA (cD (.int 127))) (consA (tA (cD (.int 128))) (consA (tA (cD (.int 129))) (consA (tA (cD (.int 255))) (consA (tA (viewD (callD (d_law_take A) (consA (slotA 0) (consA (tA (cD (.int 256))) (nilA)))))) (consA (tA (viewD (callD (d_law_take A) (consA (slotA 0) (consA (tA (cD (.int 256))) (nilA)))))) (nilA)))))))))))))) (nilA)))))
def b_law_bytes (A : Ads) : En → Out Fl := seqD (setO 2 (lstF (nilA)))
  (seqD (forS (asgN 3) (rngD rng1 (consA (tA (viewD (callD (d_law_take A) (consA (slotA 0) (consA (tA (op2 addG (slotA 1) (tA (cD (.int 1))))) (nilA)))))) (nilA))) (b_law_bytes_l0 A))
  (retF (valO (opN (on1 tupS) (consA (slotA 2) (nilA))))))
def d_law_bytes (A : Ads) : Fn := fnD (b_law_bytes A) 4 [true, true]
theorem ok_law_bytes {f : Addr} {fd : FuncData} (T : Txt K mg A) (F : L2.Fun K "_law_bytes" "_law_bytes" s_law_bytes f fd) (K_law_take : Kn P w K mg base "_law_take" 1 ["hand", "many"] (d_law_take A)) (K_law_pick : Kn P w K mg base "_law_pick" 2 ["hand", "things"] (d_law_pick A)) : FnOk P w K mg base (L2.CX P w) 3 f fd ["hand", "most"] (SpD K (d_law_bytes A)) :=
  fn_ok F sc_law_bytes rfl fun cdv AA outer s H E hr => dss_cons (ds_setO (by decide) (by rfl) (df_lst (das_nil)) (fun _ _ p => ps_set (i := 2) sc_law_bytes.nd rfl (.inl rfl) p))
  (dss_cons (ds_for (fun _ => passes_of rfl) (fun _ => rfl) (di_range1 (fun _ => by rfl) (fun _ => T.z_range) (das_cons (da_t (de_of_df (df_kn K_law_take (fun _ => ⟨rfl, rfl, rfl, rfl, rfl⟩) (fun _ => hr.mono (by decide)) (fun _ => by rfl) (fun _ => takes_of rfl rfl rfl rfl) (das_cons (da_s (fun _ => pv 0)) (das_cons (da_t (de_op2 ok_addG (da_s (fun _ => pv 1)) (da_t (de_int)) (fun _ _ _ p q => pe_op op_addAny p q))) (das_nil)))))) (das_nil))) (dg_name (by decide) (by rfl) (fun _ => pg_name sc_law_bytes.nd rfl (.inl rfl))) (dss_one (ds_append (j := 2) (de_of_df (df_kn K_law_pick (fun _ => ⟨rfl, rfl, rfl, rfl, rfl⟩) (fun _ => hr.mono (by decide)) (fun _ => by rfl) (fun _ => takes_of rfl rfl rfl rfl) (das_cons (da_s (fun _ => pv 0)) (das_cons (da_t (de_of_df (df_lst (das_cons (da_t (de_int)) (das_cons (da_t (de_int)) (das_cons (da_t (de_int)) (das_cons (da_t (de_int)) (das_cons (da_t (de_int)) (das_cons (da_t (de_int)) (das_cons (da_t (de_int)) (das_cons (da_t (de_int)) (das_cons (da_t (de_of_df (df_kn K_law_take (fun _ => ⟨rfl, rfl, rfl, rfl, rfl⟩) (fun _ => hr.mono (by decide)) (fun _ => by rfl) (fun _ => takes_of rfl rfl rfl rfl) (das_cons (da_s (fun _ => pv 0)) (das_cons (da_t (de_int)) (das_nil)))))) (das_cons (da_t (de_of_df (df_kn K_law_take (fun _ => ⟨rfl, rfl, rfl, rfl, rfl⟩) (fun _ => hr.mono (by decide)) (fun _ => by rfl) (fun _ => takes_of rfl rfl rfl rfl) (das_cons (da_s (fun _ => pv 0)) (das_cons (da_t (de_int)) (das_nil)))))) (das_nil)))))))))))))) (das_nil))))) (fun _ _ p => ps_expr (pe_bm PySem.F.plainAttrs_list PySem.F.slot_list_append PySem.F.type_list_append mt_append (pv 2) (pa_cons p pa_nil))))))
  (dss_one (ds_ret (df_of_de (de_opN ok_tuple (das_cons (da_s (fun _ => pv 2)) (das_nil)) (fun _ _ p => pe_callTy call_tuple_of (by rfl) T.z_tuple (by decide +kernel) p))))))
abbrev s_law_figures : Stmt := (top 36)
abbrev N_law_figures : List Str := ["number", "found", "k"]
theorem sc_law_figures : FnScope N_law_figures ["number"] (defScope s_law_figures) := ⟨rfl, rfl, rfl, by decide +kernel, rfl, by decide +kernel, by decide +kernel⟩
def b_law_figures_l0 (A : Ads) : En → Out Fl := seqD (ifD (tstD (op2 ltI (slotA 0) (tA (cD (.int 128))))) (bkD) (nxD))
  (seqD (appD 1 (op2 addG (tA (op2 modI (tA (opN (on1 intS) (consA (slotA 0) (nilA)))) (tA (cD (.int 128))))) (tA (cD (.int 128)))))
  (setD 0 (op2 divI (slotA 0) (tA (cD (.int 128))))))
def b_law_figures (A : Ads) : En → Out Fl := seqD (setO 1 (lstF (nilA)))
  (seqD (forS (asgN 2) (rngD rng1 (consA (tA (cD (.int 10))) (nilA))) (b_law_figures_l0 A))
  (retF (valO (op2 addG (tA (opN (on1 tupS) (consA (slotA 1) (nilA)))) (tA (tupF (consA (slotA 0) (nilA))))))))
def d_law_figures (A : Ads) : Fn := fnD (b_law_figures A) 3 [false]
theorem ok_law_figures {f : Addr} {fd : FuncData} (T : Txt K mg A) (F : L2.Fun K "_law_figures" "_law_figures" s_law_figures f fd) : FnOk P w K mg base (L2.CX P w) 1 f fd ["number"] (SpD K (d_law_figures A)) :=
  fn_ok F sc_law_figures rfl fun cdv AA outer s H E hr => dss_cons (ds_setO (by decide) (by rfl) (df_lst (das_nil)) (fun _ _ p => ps_set (i := 1) sc_law_figures.nd rfl (.inl rfl) p))
  (dss_cons (ds_for (fun _ => passes_of rfl) (fun _ => rfl) (di_range1 (fun _ => by rfl) (fun _ => T.z_range) (das_cons (da_t (de_int)) (das_nil))) (dg_name (by decide) (by rfl) (fun _ => pg_name sc_law_figures.nd rfl (.inl rfl))) (dss_cons (ds_if (dt_op2 ok_rI0b (da_s (fun _ => pv 0)) (da_t (de_int)) (fun _ _ _ p q => pt_cmpR op_lt p q (nomark _))) (dss_one (ds_break)) (dss_nil))
  (dss_cons (ds_append (j := 1) (de_op2 ok_addG (da_t (de_op2 ok_mod (da_t (de_opN ok_int (das_cons (da_s (fun _ => pv 0)) (das_nil)) (fun _ _ p => pe_callTy call_int1 (by rfl) T.z_int (by decide +kernel) p))) (da_t (de_int)) (fun _ _ _ p q => pe_op op_mod p q))) (da_t (de_int)) (fun _ _ _ p q => pe_op op_addAny p q)) (fun _ _ p => ps_expr (pe_bm PySem.F.plainAttrs_list PySem.F.slot_list_append PySem.F.type_list_append mt_append (pv 1) (pa_cons p pa_nil))))
  (dss_one (ds_set (by decide) (by rfl) (de_op2 ok_div (da_s (fun _ => pv 0)) (da_t (de_int)) (fun _ _ _ p q => pe_op op_fdivW p q)) (fun _ _ p => ps_set (i := 0) sc_law_figures.nd rfl (.inl rfl) p))))))
  (dss_one (ds_ret (df_of_de (de_op2 ok_addG (da_t (de_opN ok_tuple (das_cons (da_s (fun _ => pv 1)) (das_nil)) (fun _ _ p => pe_callTy call_tuple_of (by rfl) T.z_tuple (by decide +kernel) p))) (da_t (de_tup (das_cons (da_s (fun _ => pv 0)) (das_nil)))) (fun _ _ _ p q => pe_op op_addAny p q))))))
abbrev s_law_parts : Stmt := (top 40)
abbrev N_law_parts : List Str := ["hand", "one", "found", "k", "way", "many", "j", "at"]
theorem sc_law_parts : FnScope N_law_parts ["hand", "one"] (defScope s_law_parts) := ⟨rfl, rfl, rfl, by decide +kernel, rfl, by decide +kernel, by decide +kernel⟩
def b_law_parts_e0 (A : Ads) : En → Out D := viewD (callD (d_law_take A) (consA (slotA 0) (consA (tA (cD (.int 256))) (nilA))))
def b_law_parts_l0 (A : Ads) : En → Out Fl := seqD (setD 4 (viewD (callD (d_law_take A) (consA (slotA 0) (consA (tA (cD (.int 3))) (nilA))))))
  (seqD (setD 5 (viewD (callD (d_law_take A) (consA (slotA 0) (consA (tA (op2 addG (tA (cD (.int 1))) (tA (viewD (callD (d_law_pick A) (consA (slotA 0) (consA (tA (viewD (lstF (consA (tA (cD (.int 3))) (consA (tA (cD (.int 9))) (consA (tA (op2 addG (tA (opN (on1 lenS) (consA (slotA 1) (nilA)))) (tA (cD (.int 1))))) (consA (tA (cD (.int 50))) (nilA)))))))) (nilA)))))))) (nilA))))))
  (seqD (setD 2 (op2 addG (slotA 2) (tA (viewD (callD (d_law_figures A) (consA (tA (op2 addG (tA (op2 mulI (tA (cD (.int 3))) (slotA 5))) (slotA 4))) (nilA)))))))
  (ifD (tstD (op2 eqA (slotA 4) (tA (cD (.int 2))))) (setD 2 (op2 addG (slotA 2) (tA (opN (on1 tupS) (consA (tA (viewD (lcF (rngD rng1 (consA (tA (opN (max2) (consA (tA (cD (.int 0))) (consA (tA (op2 subI (slotA 5) (tA (opN (on1 intS) (consA (tA (op2 eqA (tA (viewD (callD (d_law_take A) (consA (slotA 0) (consA (tA (cD (.int 12))) (nilA)))))) (tA (cD (.int 0))))) (nilA)))))) (nilA))))) (nilA))) (asgN 6) (yesD) (b_law_parts_e0 A) [6]))) (nilA)))))) (nxD))))
def b_law_parts (A : Ads) : En → Out Fl := seqD (setD 2 (tupF (nilA)))
  (seqD (forS (asgN 3) (rngD rng1 (consA (tA (viewD (callD (d_law_take A) (consA (slotA 0) (consA (tA (cD (.int 6))) (nilA)))))) (nilA))) (b_law_parts_l0 A))
  (seqD (ifD (tstD (op2 eqA (tA (viewD (callD (d_law_take A) (consA (slotA 0) (consA (tA (cD (.int 4))) (nilA)))))) (tA (cD (.int 0))))) (seqD (setD 7 (viewD (callD (d_law_take A) (consA (slotA 0) (consA (tA (op2 addG (tA (opN (on1 lenS) (consA (slotA 2) (nilA)))) (tA (cD (.int 1))))) (nilA))))))
  (retF (valO (op2 addG (tA (op2 addG (tA (slG slA (slotA 2) (noP) (someP (slotA 7)))) (tA (viewD (callD (d_law_bytes A) (consA (slotA 0) (consA (tA (cD (.int 2))) (nilA)))))))) (tA (slG slA (slotA 2) (someP (slotA 7)) (noP))))))) (nxD))
  (retF (valO (slotD 2)))))
def d_law_parts (A : Ads) : Fn := fnD (b_law_parts A) 8 [true, true]
theorem ok_law_parts {f : Addr} {fd : FuncData} (T : Txt K mg A) (F : L2.Fun K "_law_parts" "_law_parts" s_law_parts f fd) (K_law_take : Kn P w K mg base "_law_take" 1 ["hand", "many"] (d_law_take A)) (K_law_pick : Kn P w K mg base "_law_pick" 2 ["hand", "things"] (d_law_pick A)) (K_law_figures : Kn P w K mg base "_law_figures" 1 ["number"] (d_law_figures A)) (K_law_bytes : Kn P w K mg base "_law_bytes" 3 ["hand", "most"] (d_law_bytes A)) : FnOk P w K mg base (L2.CX P w) 4 f fd ["hand", "one"] (SpD K (d_law_parts A)) :=
  fn_ok F sc_law_parts rfl fun cdv AA outer s H E hr => dss_cons (ds_set (by decide) (by rfl) (de_tup (das_nil)) (fun _ _ p => ps_set (i := 2) sc_law_parts.nd rfl (.inl rfl) p))
  (dss_cons (ds_for (fun _ => passes_of rfl) (fun _ => rfl) (di_range1 (fun _ => by rfl) (fun _ => T.z_range) (das_cons (da_t (de_of_df (df_kn K_law_take (fun _ => ⟨rfl, rfl, rfl, rfl, rfl⟩) (fun _ => hr.mono (by decide)) (fun _ => by rfl) (fun _ => takes_of rfl rfl rfl rfl) (das_cons (da_s (fun _ => pv 0)) (das_cons (da_t (de_int)) (das_nil)))))) (das_nil))) (dg_name (by decide) (by rfl) (fun _ => pg_name sc_law_parts.nd rfl (.inl rfl))) (dss_cons (ds_set (by decide) (by rfl) (de_of_df (df_kn K_law_take (fun _ => ⟨rfl, rfl, rfl, rfl, rfl⟩) (fun _ => hr.mono (by decide)) (fun _ => by rfl) (fun _ => takes_of rfl rfl rfl rfl) (das_cons (da_s (fun _ => pv 0)) (das_cons (da_t (de_int)) (das_nil))))) (fun _ _ p => ps_set (i := 4) sc_law_parts.nd rfl (.inl rfl) p))
  (dss_cons (ds_set (by decide) (by rfl) (de_of_df (df_kn K_law_take (fun _ => ⟨rfl, rfl, rfl, rfl, rfl⟩) (fun _ => hr.mono (by decide)) (fun _ => by rfl) (fun _ => takes_of rfl rfl rfl rfl) (das_cons (da_s (fun _ => pv 0)) (das_cons (da_t (de_op2 ok_addG (da_t (de_int)) (da_t (de_of_df (df_kn K_law_pick (fun _ => ⟨rfl, rfl, rfl, rfl, rfl⟩) (fun _ => hr.mono (by decide)) (fun _ => by rfl) (fun _ => takes_of rfl rfl rfl rfl) (das_cons (da_s (fun _ => pv 0)) (das_cons (da_t (de_of_df (df_lst (das_cons (da_t (de_int)) (das_cons (da_t (de_int)) (das_cons (da_t (de_op2 ok_addG (da_t (de_opN ok_len (das_cons (da_s (fun _ => pv 1)) (das_nil)) (fun _ _ p => pe_callB call_len (by rfl) T.z_len (by decide +kernel) p))) (da_t (de_int)) (fun _ _ _ p q => pe_op op_addAny p q))) (das_cons (da_t (de_int)) (das_nil)))))))) (das_nil)))))) (fun _ _ _ p q => pe_op op_addAny p q))) (das_nil))))) (fun _ _ p => ps_set (i := 5) sc_law_parts.nd rfl (.inl rfl) p))
  (dss_cons (ds_set (by decide) (by rfl) (de_op2 ok_addG (da_s (fun _ => pv 2)) (da_t (de_of_df (df_kn K_law_figures (fun _ => ⟨rfl, rfl, rfl, rfl, rfl⟩) (fun _ => hr.mono (by decide)) (fun _ => by rfl) (fun _ => takes_of rfl rfl rfl rfl) (das_cons (da_t (de_op2 ok_addG (da_t (de_op2 ok_mul (da_t (de_int)) (da_s (fun _ => pv 5)) (fun _ _ _ p q => pe_op op_mul p q))) (da_s (fun _ => pv 4)) (fun _ _ _ p q => pe_op op_addAny p q))) (das_nil))))) (fun _ _ _ p q => pe_op op_addAny p q)) (fun _ _ p => ps_set (i := 2) sc_law_parts.nd rfl (.inl rfl) p))
  (dss_one (ds_if (dt_op2 ok_eqA (da_s (fun _ => pv 4)) (da_t (de_int)) (fun _ _ _ p q => pt_cmpR (op_eqAny hr) p q (nomark _))) (dss_one (ds_set (by decide) (by rfl) (de_op2 ok_addG (da_s (fun _ => pv 2)) (da_t (de_opN ok_tuple (das_cons (da_t (de_of_df (df_lc (own := [("j", 6)]) (fun _ => rfl) (fun _ => sc_law_parts.nd) (fun _ => blkOk_by (N := N_law_parts) (sc := defScope s_law_parts) (own := [("j", 6)]) (by decide +kernel)) (by decide) (by decide) (di_range1 (fun _ => by rfl) (fun _ => T.z_range) (das_cons (da_t (de_opN ok_max2 (das_cons (da_t (de_int)) (das_cons (da_t (de_op2 ok_rI0 (da_s (fun _ => pv 5)) (da_t (de_opN ok_int (das_cons (da_t (de_op2 ok_eqA (da_t (de_of_df (df_kn K_law_take (fun _ => ⟨rfl, rfl, rfl, rfl, rfl⟩) (fun _ => hr.mono (by decide)) (fun _ => by rfl) (fun _ => takes_of rfl rfl rfl rfl) (das_cons (da_s (fun _ => pv 0)) (das_cons (da_t (de_int)) (das_nil)))))) (da_t (de_int)) (fun _ _ _ p q => pe_cmpR (op_eqAny hr) p q (nomark _)))) (das_nil)) (fun _ _ p => pe_callTy call_int1 (by rfl) T.z_int (by decide +kernel) p))) (fun _ _ _ p q => pe_op op_sub p q))) (das_nil))) (fun _ _ p => pe_callB (call_max2 rfl) (by rfl) T.z_max (by decide +kernel) p))) (das_nil))) (dg_name (by decide) (by rfl) (fun _ => pg_name sc_law_parts.nd rfl (.inl rfl))) (dts_nil) (de_of_df (df_kn K_law_take (fun _ => ⟨rfl, rfl, rfl, rfl, rfl⟩) (fun _ => hr.mono (by decide)) (fun _ => by rfl) (fun _ => takes0) (das_cons (da_s (fun _ => pv 0)) (das_cons (da_t (de_int)) (das_nil)))))))) (das_nil)) (fun _ _ p => pe_callTy call_tuple_of (by rfl) T.z_tuple (by decide +kernel) p))) (fun _ _ _ p q => pe_op op_addAny p q)) (fun _ _ p => ps_set (i := 2) sc_law_parts.nd rfl (.inl rfl) p))) (dss_nil)))))))
  (dss_cons (ds_if (dt_op2 ok_eqA (da_t (de_of_df (df_kn K_law_take (fun _ => ⟨rfl, rfl, rfl, rfl, rfl⟩) (fun _ => hr.mono (by decide)) (fun _ => by rfl) (fun _ => takes_of rfl rfl rfl rfl) (das_cons (da_s (fun _ => pv 0)) (das_cons (da_t (de_int)) (das_nil)))))) (da_t (de_int)) (fun _ _ _ p q => pt_cmpR (op_eqAny hr) p q (nomark _))) (dss_cons (ds_set (by decide) (by rfl) (de_of_df (df_kn K_law_take (fun _ => ⟨rfl, rfl, rfl, rfl, rfl⟩) (fun _ => hr.mono (by decide)) (fun _ => by rfl) (fun _ => takes_of rfl rfl rfl rfl) (das_cons (da_s (fun _ => pv 0)) (das_cons (da_t (de_op2 ok_addG (da_t (de_opN ok_len (das_cons (da_s (fun _ => pv 2)) (das_nil)) (fun _ _ p => pe_callB call_len (by rfl) T.z_len (by decide +kernel) p))) (da_t (de_int)) (fun _ _ _ p q => pe_op op_addAny p q))) (das_nil))))) (fun _ _ p => ps_set (i := 7) sc_law_parts.nd rfl (.inl rfl) p))
  (dss_one (ds_ret (df_of_de (de_op2 ok_addG (da_t (de_op2 ok_addG (da_t (de_slice (fun _ => sl_any) ok_slA (da_s (fun _ => pv 2)) (do_none) (do_some (da_s (fun _ => pv 7))))) (da_t (de_of_df (df_kn K_law_bytes (fun _ => ⟨rfl, rfl, rfl, rfl, rfl⟩) (fun _ => hr.mono (by decide)) (fun _ => by rfl) (fun _ => takes_of rfl rfl rfl rfl) (das_cons (da_s (fun _ => pv 0)) (das_cons (da_t (de_int)) (das_nil)))))) (fun _ _ _ p q => pe_op op_addAny p q))) (da_t (de_slice (fun _ => sl_any) ok_slA (da_s (fun _ => pv 2)) (do_some (da_s (fun _ => pv 7))) (do_none))) (fun _ _ _ p q => pe_op op_addAny p q)))))) (dss_nil))
  (dss_one (ds_ret (df_of_de (de_v (fun _ => pv 2)))))))
abbrev s_law_number_at : Stmt := (top 37)
abbrev N_law_number_at : List Str := ["row", "at", "found", "power", "k", "byte"]
theorem sc_law_number_at : FnScope N_law_number_at ["row", "at"] (defScope s_law_number_at) := ⟨rfl, rfl, rfl, by decide +kernel, rfl, by decide +kernel, by decide +kernel⟩
def b_law_number_at_l0 (A : Ads) : En → Out Fl := seqD (ifD (tstD (op2 geI (tA (op2 addG (slotA 1) (slotA 4))) (tA (opN (on1 lenS) (consA (slotA 0) (nilA)))))) (retF (valO (cD .non))) (nxD))
  (seqD (setD 5 (op2 ixG (slotA 0) (tA (op2 addG (slotA 1) (slotA 4)))))
  (seqD (setD 2 (op2 addG (slotA 2) (tA (op2 mulI (tA (op2 modI (tA (opN (on1 intS) (consA (slotA 5) (nilA)))) (tA (cD (.int 128))))) (slotA 3)))))
  (seqD (setD 3 (op2 mulI (slotA 3) (tA (cD (.int 128)))))
  (ifD (tstD (op2 ltI (slotA 5) (tA (cD (.int 128))))) (seqD (ifD (orT (andT (tstD (op2 gtI (slotA 4) (tA (cD (.int 0))))) (tstD (op2 eqA (slotA 5) (tA (cD (.int 0)))))) (tstD (op2 geI (slotA 2) (tA (op2 powI (tA (cD (.int 2))) (tA (cD (.int 64)))))))) (retF (valO (cD .non))) (nxD))
  (retF (valO (tupF (consA (slotA 2) (consA (tA (op2 addG (tA (op2 addG (slotA 1) (slotA 4))) (tA (cD (.int 1))))) (nilA))))))) (nxD)))))
def b_law_number_at (A : Ads) : En → Out Fl := seqD (setD 2 (cD (.int 0)))
  (seqD (setD 3 (cD (.int 1)))
  (seqD (forS (asgN 4) (rngD rng1 (consA (tA (cD (.int 10))) (nilA))) (b_law_number_at_l0 A))
  (retF (valO (cD .non)))))
def d_law_number_at (A : Ads) : Fn := fnD (b_law_number_at A) 6 [true, true]
theorem ok_law_number_at {f : Addr} {fd : FuncData} (T : Txt K mg A) (F : L2.Fun K "_law_number_at" "_law_number_at" s_law_number_at f fd) : FnOk P w K mg base (L2.CX P w) 1 f fd ["row", "at"] (SpD K (d_law_number_at A)) :=
  fn_ok F sc_law_number_at rfl fun cdv AA outer s H E hr => dss_cons (ds_set (by decide) (by rfl) (de_int) (fun _ _ p => ps_set (i := 2) sc_law_number_at.nd rfl (.inl rfl) p))
  (dss_cons (ds_set (by decide) (by rfl) (de_int) (fun _ _ p => ps_set (i := 3) sc_law_number_at.nd rfl (.inl rfl) p))
  (dss_cons (ds_for (fun _ => passes_of rfl) (fun _ => rfl) (di_range1 (fun _ => by rfl) (fun _ => T.z_range) (das_cons (da_t (de_int)) (das_nil))) (dg_name (by decide) (by rfl) (fun _ => pg_name sc_law_number_at.nd rfl (.inl rfl))) (dss_cons (ds_if (dt_op2 ok_rI0b (da_t (de_op2 ok_addG (da_s (fun _ => pv 1)) (da_s (fun _ => pv 4)) (fun _ _ _ p q => pe_op op_addAny p q))) (da_t (de_opN ok_len (das_cons (da_s (fun _ => pv 0)) (das_nil)) (fun _ _ p => pe_callB call_len (by rfl) T.z_len (by decide +kernel) p))) (fun _ _ _ p q => pt_cmpR op_ge p q (nomark _))) (dss_one (ds_ret (df_of_de (de_non)))) (dss_nil))
  (dss_cons (ds_set (by decide) (by rfl) (de_op2 ok_ix (da_s (fun _ => pv 0)) (da_t (de_op2 ok_addG (da_s (fun _ => pv 1)) (da_s (fun _ => pv 4)) (fun _ _ _ p q => pe_op op_addAny p q))) (fun _ _ _ p q => pe_ix ix_seq p q (fun _ _ => rfl))) (fun _ _ p => ps_set (i := 5) sc_law_number_at.nd rfl (.inl rfl) p))
  (dss_cons (ds_set (by decide) (by rfl) (de_op2 ok_addG (da_s (fun _ => pv 2)) (da_t (de_op2 ok_mul (da_t (de_op2 ok_mod (da_t (de_opN ok_int (das_cons (da_s (fun _ => pv 5)) (das_nil)) (fun _ _ p => pe_callTy call_int1 (by rfl) T.z_int (by decide +kernel) p))) (da_t (de_int)) (fun _ _ _ p q => pe_op op_mod p q))) (da_s (fun _ => pv 3)) (fun _ _ _ p q => pe_op op_mul p q))) (fun _ _ _ p q => pe_op op_addAny p q)) (fun _ _ p => ps_set (i := 2) sc_law_number_at.nd rfl (.inl rfl) p))
  (dss_cons (ds_set (by decide) (by rfl) (de_op2 ok_mul (da_s (fun _ => pv 3)) (da_t (de_int)) (fun _ _ _ p q => pe_op op_mul p q)) (fun _ _ p => ps_set (i := 3) sc_law_number_at.nd rfl (.inl rfl) p))
  (dss_one (ds_if (dt_op2 ok_rI0b (da_s (fun _ => pv 5)) (da_t (de_int)) (fun _ _ _ p q => pt_cmpR op_lt p q (nomark _))) (dss_cons (ds_if (dt_w (dw_or (dt_w (dw_and (dt_op2 ok_rI0b (da_s (fun _ => pv 4)) (da_t (de_int)) (fun _ _ _ p q => pt_cmpR op_gt p q (nomark _))) (dw_and1 (dt_op2 ok_eqA (da_s (fun _ => pv 5)) (da_t (de_int)) (fun _ _ _ p q => pt_cmpR (op_eqAny hr) p q (nomark _)))))) (dw_or1 (dt_op2 ok_rI0b (da_s (fun _ => pv 2)) (da_t (de_op2 ok_pow (da_t (de_int)) (da_t (de_int)) (fun _ _ _ p q => pe_op op_pow p q))) (fun _ _ _ p q => pt_cmpR op_ge p q (nomark _)))))) (dss_one (ds_ret (df_of_de (de_non)))) (dss_nil))
  (dss_one (ds_ret (df_of_de (de_tup (das_cons (da_s (fun _ => pv 2)) (das_cons (da_t (de_op2 ok_addG (da_t (de_op2 ok_addG (da_s (fun _ => pv 1)) (da_s (fun _ => pv 4)) (fun _ _ _ p q => pe_op op_addAny p q))) (da_t (de_int)) (fun _ _ _ p q => pe_op op_addAny p q))) (das_nil)))))))) (dss_nil))))))))
  (dss_one (ds_ret (df_of_de (de_non))))))
abbrev s_law_led : Stmt := (top 41)
abbrev N_law_led : List Str := ["one", "change_row", "found", "here", "at", "k", "part", "many", "kind"]
theorem sc_law_led : FnScope N_law_led ["one", "change_row"] (defScope s_law_led) := ⟨rfl, rfl, rfl, by decide +kernel, rfl, by decide +kernel, by decide +kernel⟩
def b_law_led_l0 (A : Ads) : En → Out Fl := seqD (ifD (tstD (op2 eqA (slotA 4) (tA (opN (on1 lenS) (consA (slotA 1) (nilA)))))) (retF (valO (tupF (consA (tA (cD (.str "told"))) (consA (slotA 2) (nilA)))))) (nxD))
  (seqD (setD 6 (viewD (callD (d_law_number_at A) (consA (slotA 1) (consA (slotA 4) (nilA))))))
  (seqD (ifD (tstD (op2 isA (slotA 6) (tA (cD .non)))) (retF (valO (tupF (consA (tA (cD (.str "BadChange"))) (consA (slotA 4) (nilA)))))) (nxD))
  (seqD (setD 7 (op2 divI (tA (op2 ixG (slotA 6) (tA (cD (.int 0))))) (tA (cD (.int 3)))))
  (seqD (setD 8 (op2 modI (tA (opN (on1 intS) (consA (tA (op2 ixG (slotA 6) (tA (cD (.int 0))))) (nilA)))) (tA (cD (.int 3)))))
  (seqD (ifD (orT (tstD (op2 eqA (slotA 7) (tA (cD (.int 0))))) (orT (andT (tstD (op2 ltI (slotA 8) (tA (cD (.int 2))))) (tstD (op2 gtI (tA (op2 addG (slotA 3) (slotA 7))) (tA (opN (on1 lenS) (consA (slotA 0) (nilA))))))) (andT (tstD (op2 eqA (slotA 8) (tA (cD (.int 2))))) (tstD (op2 gtI (tA (op2 addG (tA (op2 ixG (slotA 6) (tA (cD (.int 1))))) (slotA 7))) (tA (opN (on1 lenS) (consA (slotA 1) (nilA))))))))) (retF (valO (tupF (consA (tA (cD (.str "BadChange"))) (consA (slotA 4) (nilA)))))) (nxD))
  (seqD (setD 4 (op2 ixG (slotA 6) (tA (cD (.int 1)))))
  (seqD (ifD (tstD (op2 eqA (slotA 8) (tA (cD (.int 0))))) (setD 2 (op2 addG (slotA 2) (tA (slG slA (slotA 0) (someP (slotA 3)) (someP (tA (op2 addG (slotA 3) (slotA 7)))))))) (nxD))
  (ifD (tstD (op2 eqA (slotA 8) (tA (cD (.int 2))))) (seqD (setD 2 (op2 addG (slotA 2) (tA (slG slA (slotA 1) (someP (slotA 4)) (someP (tA (op2 addG (slotA 4) (slotA 7))))))))
  (setD 4 (op2 addG (slotA 4) (slotA 7)))) (setD 3 (op2 addG (slotA 3) (slotA 7)))))))))))
def b_law_led (A : Ads) : En → Out Fl := seqD (setD 2 (tupF (nilA)))
  (seqD (setD 3 (cD (.int 0)))
  (seqD (setD 4 (cD (.int 0)))
  (seqD (forS (asgN 5) (rngD rng1 (consA (tA (op2 addG (tA (opN (on1 lenS) (consA (slotA 1) (nilA)))) (tA (cD (.int 1))))) (nilA))) (b_law_led_l0 A))
  (retF (valO (tupF (consA (tA (cD (.str "told"))) (consA (slotA 2) (nilA)))))))))
def d_law_led (A : Ads) : Fn := fnD (b_law_led A) 9 [true, true]
theorem ok_law_led {f : Addr} {fd : FuncData} (T : Txt K mg A) (F : L2.Fun K "_law_led" "_law_led" s_law_led f fd) (K_law_number_at : Kn P w K mg base "_law_number_at" 1 ["row", "at"] (d_law_number_at A)) : FnOk P w K mg base (L2.CX P w) 2 f fd ["one", "change_row"] (SpD K (d_law_led A)) :=
  fn_ok F sc_law_led rfl fun cdv AA outer s H E hr => dss_cons (ds_set (by decide) (by rfl) (de_tup (das_nil)) (fun _ _ p => ps_set (i := 2) sc_law_led.nd rfl (.inl rfl) p))
  (dss_cons (ds_set (by decide) (by rfl) (de_int) (fun _ _ p => ps_set (i := 3) sc_law_led.nd rfl (.inl rfl) p))
  (dss_cons (ds_set (by decide) (by rfl) (de_int) (fun _ _ p => ps_set (i := 4) sc_law_led.nd rfl (.inl rfl) p))
  (dss_cons (ds_for (fun _ => passes_of rfl) (fun _ => rfl) (di_range1 (fun _ => by rfl) (fun _ => T.z_range) (das_cons (da_t (de_op2 ok_addG (da_t (de_opN ok_len (das_cons (da_s (fun _ => pv 1)) (das_nil)) (fun _ _ p => pe_callB call_len (by rfl) T.z_len (by decide +kernel) p))) (da_t (de_int)) (fun _ _ _ p q => pe_op op_addAny p q))) (das_nil))) (dg_name (by decide) (by rfl) (fun _ => pg_name sc_law_led.nd rfl (.inl rfl))) (dss_cons (ds_if (dt_op2 ok_eqA (da_s (fun _ => pv 4)) (da_t (de_opN ok_len (das_cons (da_s (fun _ => pv 1)) (das_nil)) (fun _ _ p => pe_callB call_len (by rfl) T.z_len (by decide +kernel) p))) (fun _ _ _ p q => pt_cmpR (op_eqAny hr) p q (nomark _))) (dss_one (ds_ret (df_of_de (de_tup (das_cons (da_t (de_str)) (das_cons (da_s (fun _ => pv 2)) (das_nil))))))) (dss_nil))
  (dss_cons (ds_set (by decide) (by rfl) (de_of_df (df_kn K_law_number_at (fun _ => ⟨rfl, rfl, rfl, rfl, rfl⟩) (fun _ => hr.mono (by decide)) (fun _ => by rfl) (fun _ => takes_of rfl rfl rfl rfl) (das_cons (da_s (fun _ => pv 1)) (das_cons (da_s (fun _ => pv 4)) (das_nil))))) (fun _ _ p => ps_set (i := 6) sc_law_led.nd rfl (.inl rfl) p))
  (dss_cons (ds_if (dt_op2 ok_isA (da_s (fun _ => pv 6)) (da_t (de_non)) (fun _ _ _ p q => pt_cmpR op_isAny p q (nomark _))) (dss_one (ds_ret (df_of_de (de_tup (das_cons (da_t (de_str)) (das_cons (da_s (fun _ => pv 4)) (das_nil))))))) (dss_nil))
  (dss_cons (ds_set (by decide) (by rfl) (de_op2 ok_div (da_t (de_op2 ok_ix (da_s (fun _ => pv 6)) (da_t (de_int)) (fun _ _ _ p q => pe_ix ix_seq p q (fun _ _ => rfl)))) (da_t (de_int)) (fun _ _ _ p q => pe_op op_fdivW p q)) (fun _ _ p => ps_set (i := 7) sc_law_led.nd rfl (.inl rfl) p))
  (dss_cons (ds_set (by decide) (by rfl) (de_op2 ok_mod (da_t (de_opN ok_int (das_cons (da_t (de_op2 ok_ix (da_s (fun _ => pv 6)) (da_t (de_int)) (fun _ _ _ p q => pe_ix ix_seq p q (fun _ _ => rfl)))) (das_nil)) (fun _ _ p => pe_callTy call_int1 (by rfl) T.z_int (by decide +kernel) p))) (da_t (de_int)) (fun _ _ _ p q => pe_op op_mod p q)) (fun _ _ p => ps_set (i := 8) sc_law_led.nd rfl (.inl rfl) p))
  (dss_cons (ds_if (dt_w (dw_or (dt_op2 ok_eqA (da_s (fun _ => pv 7)) (da_t (de_int)) (fun _ _ _ p q => pt_cmpR (op_eqAny hr) p q (nomark _))) (dw_or (dt_w (dw_and (dt_op2 ok_rI0b (da_s (fun _ => pv 8)) (da_t (de_int)) (fun _ _ _ p q => pt_cmpR op_lt p q (nomark _))) (dw_and1 (dt_op2 ok_rI0b (da_t (de_op2 ok_addG (da_s (fun _ => pv 3)) (da_s (fun _ => pv 7)) (fun _ _ _ p q => pe_op op_addAny p q))) (da_t (de_opN ok_len (das_cons (da_s (fun _ => pv 0)) (das_nil)) (fun _ _ p => pe_callB call_len (by rfl) T.z_len (by decide +kernel) p))) (fun _ _ _ p q => pt_cmpR op_gt p q (nomark _)))))) (dw_or1 (dt_w (dw_and (dt_op2 ok_eqA (da_s (fun _ => pv 8)) (da_t (de_int)) (fun _ _ _ p q => pt_cmpR (op_eqAny hr) p q (nomark _))) (dw_and1 (dt_op2 ok_rI0b (da_t (de_op2 ok_addG (da_t (de_op2 ok_ix (da_s (fun _ => pv 6)) (da_t (de_int)) (fun _ _ _ p q => pe_ix ix_seq p q (fun _ _ => rfl)))) (da_s (fun _ => pv 7)) (fun _ _ _ p q => pe_op op_addAny p q))) (da_t (de_opN ok_len (das_cons (da_s (fun _ => pv 1)) (das_nil)) (fun _ _ p => pe_callB call_len (by rfl) T.z_len (by decide +kernel) p))) (fun _ _ _ p q => pt_cmpR op_gt p q (nomark _)))))))))) (dss_one (ds_ret (df_of_de (de_tup (das_cons (da_t (de_str)) (das_cons (da_s (fun _ => pv 4)) (das_nil))))))) (dss_nil))
  (dss_cons (ds_set (by decide) (by rfl) (de_op2 ok_ix (da_s (fun _ => pv 6)) (da_t (de_int)) (fun _ _ _ p q => pe_ix ix_seq p q (fun _ _ => rfl))) (fun _ _ p => ps_set (i := 4) sc_law_led.nd rfl (.inl rfl) p))
  (dss_cons (ds_if (dt_op2 ok_eqA (da_s (fun _ => pv 8)) (da_t (de_int)) (fun _ _ _ p q => pt_cmpR (op_eqAny hr) p q (nomark _))) (dss_one (ds_set (by decide) (by rfl) (de_op2 ok_addG (da_s (fun _ => pv 2)) (da_t (de_slice (fun _ => sl_any) ok_slA (da_s (fun _ => pv 0)) (do_some (da_s (fun _ => pv 3))) (do_some (da_t (de_op2 ok_addG (da_s (fun _ => pv 3)) (da_s (fun _ => pv 7)) (fun _ _ _ p q => pe_op op_addAny p q)))))) (fun _ _ _ p q => pe_op op_addAny p q)) (fun _ _ p => ps_set (i := 2) sc_law_led.nd rfl (.inl rfl) p))) (dss_nil))
  (dss_one (ds_if (dt_op2 ok_eqA (da_s (fun _ => pv 8)) (da_t (de_int)) (fun _ _ _ p q => pt_cmpR (op_eqAny hr) p q (nomark _))) (dss_cons (ds_set (by decide) (by rfl) (de_op2 ok_addG (da_s (fun _ => pv 2)) (da_t (de_slice (fun _ => sl_any) ok_slA (da_s (fun _ => pv 1)) (do_some (da_s (fun _ => pv 4))) (do_some (da_t (de_op2 ok_addG (da_s (fun _ => pv 4)) (da_s (fun _ => pv 7)) (fun _ _ _ p q => pe_op op_addAny p q)))))) (fun _ _ _ p q => pe_op op_addAny p q)) (fun _ _ p => ps_set (i := 2) sc_law_led.nd rfl (.inl rfl) p))
  (dss_one (ds_set (by decide) (by rfl) (de_op2 ok_addG (da_s (fun _ => pv 4)) (da_s (fun _ => pv 7)) (fun _ _ _ p q => pe_op op_addAny p q)) (fun _ _ p => ps_set (i := 4) sc_law_led.nd rfl (.inl rfl) p)))) (dss_one (ds_set (by decide) (by rfl) (de_op2 ok_addG (da_s (fun _ => pv 3)) (da_s (fun _ => pv 7)) (fun _ _ _ p q => pe_op op_addAny p q)) (fun _ _ p => ps_set (i := 3) sc_law_led.nd rfl (.inl rfl) p))))))))))))))
  (dss_one (ds_ret (df_of_de (de_tup (das_cons (da_t (de_str)) (das_cons (da_s (fun _ => pv 2)) (das_nil))))))))))
abbrev s_law_near_row : Stmt := (top 42)
abbrev N_law_near_row : List Str := ["hand", "one", "way", "at", "more"]
theorem sc_law_near_row : FnScope N_law_near_row ["hand", "one"] (defScope s_law_near_row) := ⟨rfl, rfl, rfl, by decide +kernel, rfl, by decide +kernel, by decide +kernel⟩
def b_law_near_row (A : Ads) : En → Out Fl := seqD (setD 2 (viewD (callD (d_law_take A) (consA (slotA 0) (consA (tA (cD (.int 8))) (nilA))))))
  (seqD (setD 3 (viewD (callD (d_law_take A) (consA (slotA 0) (consA (tA (op2 addG (tA (opN (on1 lenS) (consA (slotA 1) (nilA)))) (tA (cD (.int 1))))) (nilA))))))
  (seqD (setD 4 (viewD (callD (d_law_bytes A) (consA (slotA 0) (consA (tA (cD (.int 20))) (nilA))))))
  (seqD (ifD (tstD (op2 eqA (slotA 2) (tA (cD (.int 0))))) (retF (valO (slotD 1))) (nxD))
  (seqD (ifD (tstD (op2 eqA (slotA 2) (tA (cD (.int 1))))) (retF (valO (slG slA (slotA 1) (noP) (someP (slotA 3))))) (nxD))
  (seqD (ifD (tstD (op2 eqA (slotA 2) (tA (cD (.int 2))))) (retF (valO (op2 addG (slotA 4) (tA (slG slA (slotA 1) (someP (slotA 3)) (noP)))))) (nxD))
  (seqD (ifD (tstD (op2 eqA (slotA 2) (tA (cD (.int 3))))) (retF (valO (slotD 4))) (nxD))
  (seqD (ifD (tstD (op2 eqA (slotA 2) (tA (cD (.int 4))))) (retF (valO (op2 addG (slotA 1) (slotA 4)))) (nxD))
  (retF (valO (op2 addG (tA (op2 addG (tA (slG slA (slotA 1) (noP) (someP (slotA 3)))) (slotA 4))) (tA (slG slA (slotA 1) (someP (tA (op2 addG (slotA 3) (tA (viewD (callD (d_law_take A) (consA (slotA 0) (consA (tA (cD (.int 12))) (nilA))))))))) (noP)))))))))))))
def d_law_near_row (A : Ads) : Fn := fnD (b_law_near_row A) 5 [true, true]
theorem ok_law_near_row {f : Addr} {fd : FuncData} (T : Txt K mg A) (F : L2.Fun K "_law_near_row" "_law_near_row" s_law_near_row f fd) (K_law_take : Kn P w K mg base "_law_take" 1 ["hand", "many"] (d_law_take A)) (K_law_bytes : Kn P w K mg base "_law_bytes" 3 ["hand", "most"] (d_law_bytes A)) : FnOk P w K mg base (L2.CX P w) 4 f fd ["hand", "one"] (SpD K (d_law_near_row A)) :=
  fn_ok F sc_law_near_row rfl fun cdv AA outer s H E hr => dss_cons (ds_set (by decide) (by rfl) (de_of_df (df_kn K_law_take (fun _ => ⟨rfl, rfl, rfl, rfl, rfl⟩) (fun _ => hr.mono (by decide)) (fun _ => by rfl) (fun _ => takes_of rfl rfl rfl rfl) (das_cons (da_s (fun _ => pv 0)) (das_cons (da_t (de_int)) (das_nil))))) (fun _ _ p => ps_set (i := 2) sc_law_near_row.nd rfl (.inl rfl) p))
  (dss_cons (ds_set (by decide) (by rfl) (de_of_df (df_kn K_law_take (fun _ => ⟨rfl, rfl, rfl, rfl, rfl⟩) (fun _ => hr.mono (by decide)) (fun _ => by rfl) (fun _ => takes_of rfl rfl rfl rfl) (das_cons (da_s (fun _ => pv 0)) (das_cons (da_t (de_op2 ok_addG (da_t (de_opN ok_len (das_cons (da_s (fun _ => pv 1)) (das_nil)) (fun _ _ p => pe_callB call_len (by rfl) T.z_len (by decide +kernel) p))) (da_t (de_int)) (fun _ _ _ p q => pe_op op_addAny p q))) (das_nil))))) (fun _ _ p => ps_set (i := 3) sc_law_near_row.nd rfl (.inl rfl) p))
  (dss_cons (ds_set (by decide) (by rfl) (de_of_df (df_kn K_law_bytes (fun _ => ⟨rfl, rfl, rfl, rfl, rfl⟩) (fun _ => hr.mono (by decide)) (fun _ => by rfl) (fun _ => takes_of rfl rfl rfl rfl) (das_cons (da_s (fun _ => pv 0)) (das_cons (da_t (de_int)) (das_nil))))) (fun _ _ p => ps_set (i := 4) sc_law_near_row.nd rfl (.inl rfl) p))
  (dss_cons (ds_if (dt_op2 ok_eqA (da_s (fun _ => pv 2)) (da_t (de_int)) (fun _ _ _ p q => pt_cmpR (op_eqAny hr) p q (nomark _))) (dss_one (ds_ret (df_of_de (de_v (fun _ => pv 1))))) (dss_nil))
  (dss_cons (ds_if (dt_op2 ok_eqA (da_s (fun _ => pv 2)) (da_t (de_int)) (fun _ _ _ p q => pt_cmpR (op_eqAny hr) p q (nomark _))) (dss_one (ds_ret (df_of_de (de_slice (fun _ => sl_any) ok_slA (da_s (fun _ => pv 1)) (do_none) (do_some (da_s (fun _ => pv 3))))))) (dss_nil))
  (dss_cons (ds_if (dt_op2 ok_eqA (da_s (fun _ => pv 2)) (da_t (de_int)) (fun _ _ _ p q => pt_cmpR (op_eqAny hr) p q (nomark _))) (dss_one (ds_ret (df_of_de (de_op2 ok_addG (da_s (fun _ => pv 4)) (da_t (de_slice (fun _ => sl_any) ok_slA (da_s (fun _ => pv 1)) (do_some (da_s (fun _ => pv 3))) (do_none))) (fun _ _ _ p q => pe_op op_addAny p q))))) (dss_nil))
  (dss_cons (ds_if (dt_op2 ok_eqA (da_s (fun _ => pv 2)) (da_t (de_int)) (fun _ _ _ p q => pt_cmpR (op_eqAny hr) p q (nomark _))) (dss_one (ds_ret (df_of_de (de_v (fun _ => pv 4))))) (dss_nil))
  (dss_cons (ds_if (dt_op2 ok_eqA (da_s (fun _ => pv 2)) (da_t (de_int)) (fun _ _ _ p q => pt_cmpR (op_eqAny hr) p q (nomark _))) (dss_one (ds_ret (df_of_de (de_op2 ok_addG (da_s (fun _ => pv 1)) (da_s (fun _ => pv 4)) (fun _ _ _ p q => pe_op op_addAny p q))))) (dss_nil))
  (dss_one (ds_ret (df_of_de (de_op2 ok_addG (da_t (de_op2 ok_addG (da_t (de_slice (fun _ => sl_any) ok_slA (da_s (fun _ => pv 1)) (do_none) (do_some (da_s (fun _ => pv 3))))) (da_s (fun _ => pv 4)) (fun _ _ _ p q => pe_op op_addAny p q))) (da_t (de_slice (fun _ => sl_any) ok_slA (da_s (fun _ => pv 1)) (do_some (da_t (de_op2 ok_addG (da_s (fun _ => pv 3)) (da_t (de_of_df (df_kn K_law_take (fun _ => ⟨rfl, rfl, rfl, rfl, rfl⟩) (fun _ => hr.mono (by decide)) (fun _ => by rfl) (fun _ => takes_of rfl rfl rfl rfl) (das_cons (da_s (fun _ => pv 0)) (das_cons (da_t (de_int)) (das_nil)))))) (fun _ _ _ p q => pe_op op_addAny p q)))) (do_none))) (fun _ _ _ p q => pe_op op_addAny p q))))))))))))
abbrev s_is_row : Stmt := (top 15)
abbrev N_is_row : List Str := ["thing", "item"]
theorem sc_is_row : FnScope N_is_row ["thing"] (defScope s_is_row) := ⟨rfl, rfl, rfl, by decide +kernel, rfl, by decide +kernel, by decide +kernel⟩
def b_is_row_e0 (A : Ads) : En → Out D := andV (op1 (isiG (tbB "int")) (slotA 1)) (andV (notV (op1 (isiG (tbB "bool")) (slotA 1))) (chainD leI ltI (tA (cD (.int 0))) (slotA 1) (tA (cD (.int 256)))))
def b_is_row (A : Ads) : En → Out Fl := seqD (ifD (orT (notT (truE (tA (op1 (isiG (tbB "tuple")) (slotA 0))))) (tstD (op2 gtI (tA (opN (on1 lenS) (consA (slotA 0) (nilA)))) (tA (cD (.int 300000)))))) (retF (valO (cD (.bl false)))) (nxD))
  (retF (valO (opN (on1 allS) (consA (tA (viewD (lcF (walkI (slotD 0)) (asgN 1) (yesD) (b_is_row_e0 A) [1]))) (nilA)))))
def d_is_row (A : Ads) : Fn := fnD (b_is_row A) 2 [true]
theorem ok_is_row {f : Addr} {fd : FuncData} (T : Txt K mg A) (F : L2.Fun K "is_row" "is_row" s_is_row f fd) : FnOk P w K mg base (L2.CX P w) 1 f fd ["thing"] (SpD K (d_is_row A)) :=
  fn_ok F sc_is_row rfl fun cdv AA outer s H E hr => dss_cons (ds_if (dt_w (dw_or (dt_not (dt_truth (fun _ => rfl) (da_t (de_op1 (ok_isi (.ty "tuple") tbB_ok) (da_s (fun _ => pv 0)) (fun _ _ p => pe_callB call_isi (by rfl) T.z_isinstance (by decide +kernel) (pa_cons p (pa_cons (pe_bltn (v := .ty "tuple") (u := .type "tuple") (by rfl) T.z_tuple (by decide +kernel) rfl) pa_nil))))))) (dw_or1 (dt_op2 ok_rI0b (da_t (de_opN ok_len (das_cons (da_s (fun _ => pv 0)) (das_nil)) (fun _ _ p => pe_callB call_len (by rfl) T.z_len (by decide +kernel) p))) (da_t (de_c (v := .int 300000) (fun _ => pe_glob (by rfl) T.c_MOST_BYTES ⟨_, rfl⟩) (fun _ _ _ => rfl))) (fun _ _ _ p q => pt_cmpR op_gt p q (nomark _)))))) (dss_one (ds_ret (df_of_de (de_bl)))) (dss_nil))
  (dss_one (ds_ret (df_of_de (de_opN ok_all (das_cons (da_t (de_of_df (df_lc (own := [("item", 1)]) (fun _ => rfl) (fun _ => sc_is_row.nd) (fun _ => blkOk_by (N := N_is_row) (sc := defScope s_is_row) (own := [("item", 1)]) (by decide +kernel)) (by decide) (by decide) (di_any (fun _ => rfl) (de_v (fun _ => pv 0))) (dg_name (by decide) (by rfl) (fun _ => pg_name sc_is_row.nd rfl (.inl rfl))) (dts_nil) (de_and (de_op1 (ok_isi (.ty "int") tbB_ok) (da_s (fun _ => pv 1)) (fun _ _ p => pe_callB call_isi (by rfl) T.z_isinstance (by decide +kernel) (pa_cons p (pa_cons (pe_bltn (v := .ty "int") (u := .type "int") (by rfl) T.z_int (by decide +kernel) rfl) pa_nil)))) (de_and (de_not (de_op1 (ok_isi (.ty "bool") tbB_ok) (da_s (fun _ => pv 1)) (fun _ _ p => pe_callB call_isi (by rfl) T.z_isinstance (by decide +kernel) (pa_cons p (pa_cons (pe_bltn (v := .ty "bool") (u := .type "bool") (by rfl) T.z_bool (by decide +kernel) rfl) pa_nil))))) (de_one (de_chain (fun _ => op_le) (fun _ => op_lt) ok_rI0b hb_I (da_t (de_int)) (da_s (fun _ => pv 1)) (da_t (de_c (v := .int 256) (fun _ => pe_glob (by rfl) T.c_BYTES ⟨_, rfl⟩) (fun _ _ _ => rfl)))))))))) (das_nil)) (fun _ _ p => pe_callB (cr_all rfl) (by rfl) T.z_all (by decide +kernel) p)))))
abbrev s_check_rows : Stmt := (top 22)
abbrev N_check_rows : List Str := ["rows", "row"]
theorem sc_check_rows : FnScope N_check_rows ["rows"] (defScope s_check_rows) := ⟨rfl, rfl, rfl, by decide +kernel, rfl, by decide +kernel, by decide +kernel⟩
def b_check_rows_l0 (A : Ads) : En → Out Fl := ifD (notT (truE (tA (viewD (callD (d_is_row A) (consA (slotA 1) (nilA))))))) (exD A.NoRow) (nxD)
def b_check_rows (A : Ads) : En → Out Fl := forS (asgN 1) (walkI (slotD 0)) (b_check_rows_l0 A)
def d_check_rows (A : Ads) : Fn := fnD (b_check_rows A) 2 [true]
theorem ok_check_rows {f : Addr} {fd : FuncData} (T : Txt K mg A) (F : L2.Fun K "_check_rows" "_check_rows" s_check_rows f fd) (K_is_row : Kn P w K mg base "is_row" 1 ["thing"] (d_is_row A)) : FnOk P w K mg base (L2.CX P w) 3 f fd ["rows"] (SpD K (d_check_rows A)) :=
  fn_ok F sc_check_rows rfl fun cdv AA outer s H E hr => dss_one (ds_for (fun _ => passes_of rfl) (fun _ => rfl) (di_any (fun _ => rfl) (de_v (fun _ => pv 0))) (dg_name (by decide) (by rfl) (fun _ => pg_name sc_check_rows.nd rfl (.inl rfl))) (dss_one (ds_if (dt_not (dt_truth (fun _ => rfl) (da_t (de_of_df (df_kn K_is_row (fun _ => ⟨rfl, rfl, rfl, rfl, rfl⟩) (fun _ => hr.mono (by decide)) (fun _ => by rfl) (fun _ => takes_of rfl rfl rfl rfl) (das_cons (da_s (fun _ => pv 1)) (das_nil))))))) (dss_one (ds_er0 T.e_NoRow (fun _ => ⟨rfl, rfl, rfl, rfl, rfl⟩) (fun _ => rfl) (fun _ => takes_of rfl rfl rfl rfl) (fun _ => rfl))) (dss_nil))))
abbrev s_many_alike : Stmt := (top 27)
abbrev N_many_alike : List Str := ["one", "other", "many"]
theorem sc_many_alike : FnScope N_many_alike ["one", "other"] (defScope s_many_alike) := ⟨rfl, rfl, rfl, by decide +kernel, rfl, by decide +kernel, by decide +kernel⟩
def b_many_alike_l0 (A : Ads) : En → Out Fl := setD 2 (op2 addI (slotA 2) (tA (cD (.int 1))))
def b_many_alike (A : Ads) : En → Out Fl := seqD (setD 2 (cD (.int 0)))
  (seqD (whileL (andT (tstD (op2 ltI (slotA 2) (tA (opN (min2) (consA (tA (opN (on1 lenS) (consA (slotA 0) (nilA)))) (consA (tA (opN (on1 lenS) (consA (slotA 1) (nilA)))) (nilA))))))) (tstD (op2 eqA (tA (op2 ixG (slotA 0) (slotA 2))) (tA (op2 ixG (slotA 1) (slotA 2)))))) (b_many_alike_l0 A))
  (retF (valO (slotD 2))))
def d_many_alike (A : Ads) : Fn := fnD (b_many_alike A) 3 [true, true]
theorem ok_many_alike {f : Addr} {fd : FuncData} (T : Txt K mg A) (F : L2.Fun K "_many_alike" "_many_alike" s_many_alike f fd) : FnOk P w K mg base (L2.CX P w) 1 f fd ["one", "other"] (SpD K (d_many_alike A)) :=
  fn_ok F sc_many_alike rfl fun cdv AA outer s H E hr => dss_cons (ds_set (by decide) (by rfl) (de_int) (fun _ _ p => ps_set (i := 2) sc_many_alike.nd rfl (.inl rfl) p))
  (dss_cons (ds_while (fun _ => passes_of rfl) (dt_w (dw_and (dt_op2 ok_rI0b (da_s (fun _ => pv 2)) (da_t (de_opN ok_min2 (das_cons (da_t (de_opN ok_len (das_cons (da_s (fun _ => pv 0)) (das_nil)) (fun _ _ p => pe_callB call_len (by rfl) T.z_len (by decide +kernel) p))) (das_cons (da_t (de_opN ok_len (das_cons (da_s (fun _ => pv 1)) (das_nil)) (fun _ _ p => pe_callB call_len (by rfl) T.z_len (by decide +kernel) p))) (das_nil))) (fun _ _ p => pe_callB (call_min2 rfl) (by rfl) T.z_min (by decide +kernel) p))) (fun _ _ _ p q => pt_cmpR op_lt p q (nomark _))) (dw_and1 (dt_op2 ok_eqA (da_t (de_op2 ok_ix (da_s (fun _ => pv 0)) (da_s (fun _ => pv 2)) (fun _ _ _ p q => pe_ix ix_seq p q (fun _ _ => rfl)))) (da_t (de_op2 ok_ix (da_s (fun _ => pv 1)) (da_s (fun _ => pv 2)) (fun _ _ _ p q => pe_ix ix_seq p q (fun _ _ => rfl)))) (fun _ _ _ p q => pt_cmpR (op_eqAny hr) p q (nomark _)))))) (dss_one (ds_aug (i := 2) (by decide) (by rfl) ok_rI0 (da_t (de_int)) (fun _ _ p => ps_aug sc_many_alike.nd rfl (.inl rfl) p iop_add))))
  (dss_one (ds_ret (df_of_de (de_v (fun _ => pv 2))))))
abbrev s_is_int : Stmt := (top 7)
abbrev N_is_int : List Str := ["thing"]
theorem sc_is_int : FnScope N_is_int ["thing"] (defScope s_is_int) := ⟨rfl, rfl, rfl, by decide +kernel, rfl, by decide +kernel, by decide +kernel⟩
def b_is_int (A : Ads) : En → Out Fl := retF (valO (andV (op1 (isiG (tbB "int")) (slotA 0)) (notV (op1 (isiG (tbB "bool")) (slotA 0)))))
def d_is_int (A : Ads) : Fn := fnD (b_is_int A) 1 [true]
theorem ok_is_int {f : Addr} {fd : FuncData} (T : Txt K mg A) (F : L2.Fun K "is_int" "is_int" s_is_int f fd) : FnOk P w K mg base (L2.CX P w) 1 f fd ["thing"] (SpD K (d_is_int A)) :=
  fn_ok F sc_is_int rfl fun cdv AA outer s H E hr => dss_one (ds_ret (df_of_de (de_and (de_op1 (ok_isi (.ty "int") tbB_ok) (da_s (fun _ => pv 0)) (fun _ _ p => pe_callB call_isi (by rfl) T.z_isinstance (by decide +kernel) (pa_cons p (pa_cons (pe_bltn (v := .ty "int") (u := .type "int") (by rfl) T.z_int (by decide +kernel) rfl) pa_nil)))) (de_one (de_not (de_op1 (ok_isi (.ty "bool") tbB_ok) (da_s (fun _ => pv 0)) (fun _ _ p => pe_callB call_isi (by rfl) T.z_isinstance (by decide +kernel) (pa_cons p (pa_cons (pe_bltn (v := .ty "bool") (u := .type "bool") (by rfl) T.z_bool (by decide +kernel) rfl) pa_nil)))))))))
abbrev s_is_number : Stmt := (top 8)
abbrev N_is_number : List Str := ["thing"]
theorem sc_is_number : FnScope N_is_number ["thing"] (defScope s_is_number) := ⟨rfl, rfl, rfl, by decide +kernel, rfl, by decide +kernel, by decide +kernel⟩
def b_is_number (A : Ads) : En → Out Fl := retF (valO (andV (viewD (callD (d_is_int A) (consA (slotA 0) (nilA)))) (op2 geI (slotA 0) (tA (cD (.int 0))))))
def d_is_number (A : Ads) : Fn := fnD (b_is_number A) 1 [true]
theorem ok_is_number {f : Addr} {fd : FuncData} (T : Txt K mg A) (F : L2.Fun K "is_number" "is_number" s_is_number f fd) (K_is_int : Kn P w K mg base "is_int" 1 ["thing"] (d_is_int A)) : FnOk P w K mg base (L2.CX P w) 2 f fd ["thing"] (SpD K (d_is_number A)) :=
  fn_ok F sc_is_number rfl fun cdv AA outer s H E hr => dss_one (ds_ret (df_of_de (de_and (de_of_df (df_kn K_is_int (fun _ => ⟨rfl, rfl, rfl, rfl, rfl⟩) (fun _ => hr.mono (by decide)) (fun _ => by rfl) (fun _ => takes_of rfl rfl rfl rfl) (das_cons (da_s (fun _ => pv 0)) (das_nil)))) (de_one (de_op2 ok_rI0b (da_s (fun _ => pv 0)) (da_t (de_int)) (fun _ _ _ p q => pe_cmpR op_ge p q (nomark _)))))))
abbrev s_is_number_below : Stmt := (top 9)
abbrev N_is_number_below : List Str := ["thing", "limit"]
theorem sc_is_number_below : FnScope N_is_number_below ["thing", "limit"] (defScope s_is_number_below) := ⟨rfl, rfl, rfl, by decide +kernel, rfl, by decide +kernel, by decide +kernel⟩
def b_is_number_below (A : Ads) : En → Out Fl := retF (valO (andV (viewD (callD (d_is_number A) (consA (slotA 0) (nilA)))) (op2 ltI (slotA 0) (slotA 1))))
def d_is_number_below (A : Ads) : Fn := fnD (b_is_number_below A) 2 [true, true]
theorem ok_is_number_below {f : Addr} {fd : FuncData} (T : Txt K mg A) (F : L2.Fun K "is_number_below" "is_number_below" s_is_number_below f fd) (K_is_number : Kn P w K mg base "is_number" 2 ["thing"] (d_is_number A)) : FnOk P w K mg base (L2.CX P w) 3 f fd ["thing", "limit"] (SpD K (d_is_number_below A)) :=
  fn_ok F sc_is_number_below rfl fun cdv AA outer s H E hr => dss_one (ds_ret (df_of_de (de_and (de_of_df (df_kn K_is_number (fun _ => ⟨rfl, rfl, rfl, rfl, rfl⟩) (fun _ => hr.mono (by decide)) (fun _ => by rfl) (fun _ => takes_of rfl rfl rfl rfl) (das_cons (da_s (fun _ => pv 0)) (das_nil)))) (de_one (de_op2 ok_rI0b (da_s (fun _ => pv 0)) (da_s (fun _ => pv 1)) (fun _ _ _ p q => pe_cmpR op_lt p q (nomark _)))))))
abbrev s_whole : Stmt := (top 16)
abbrev N_whole : List Str := ["number", "figures"]
theorem sc_whole : FnScope N_whole ["number"] (defScope s_whole) := ⟨rfl, rfl, rfl, by decide +kernel, rfl, by decide +kernel, by decide +kernel⟩
def b_whole_l0 (A : Ads) : En → Out Fl := seqD (appD 1 (op2 addG (tA (cD (.int 128))) (tA (op2 modI (slotA 0) (tA (cD (.int 128)))))))
  (setD 0 (op2 divI (slotA 0) (tA (cD (.int 128)))))
def b_whole (A : Ads) : En → Out Fl := seqD (ifD (notT (truE (tA (viewD (callD (d_is_number_below A) (consA (slotA 0) (consA (tA (cD (.int 18446744073709551616))) (nilA)))))))) (exD A.NoNumber) (nxD))
  (seqD (setO 1 (lstF (nilA)))
  (seqD (whileL (tstD (op2 geI (slotA 0) (tA (cD (.int 128))))) (b_whole_l0 A))
  (seqD (appD 1 (slotD 0))
  (retF (valO (opN (on1 tupS) (consA (slotA 1) (nilA))))))))
def d_whole (A : Ads) : Fn := fnD (b_whole A) 2 [false]
theorem ok_whole {f : Addr} {fd : FuncData} (T : Txt K mg A) (F : L2.Fun K "whole" "whole" s_whole f fd) (K_is_number_below : Kn P w K mg base "is_number_below" 3 ["thing", "limit"] (d_is_number_below A)) : FnOk P w K mg base (L2.CX P w) 4 f fd ["number"] (SpD K (d_whole A)) :=
  fn_ok F sc_whole rfl fun cdv AA outer s H E hr => dss_cons (ds_if (dt_not (dt_truth (fun _ => rfl) (da_t (de_of_df (df_kn K_is_number_below (fun _ => ⟨rfl, rfl, rfl, rfl, rfl⟩) (fun _ => hr.mono (by decide)) (fun _ => by rfl) (fun _ => takes_of rfl rfl rfl rfl) (das_cons (da_s (fun _ => pv 0)) (das_cons (da_t (de_c (v := .int 18446744073709551616) (fun _ => pe_glob (by rfl) T.c_WHOLES ⟨_, rfl⟩) (fun _ _ _ => rfl))) (das_nil)))))))) (dss_one (ds_er0 T.e_NoNumber (fun _ => ⟨rfl, rfl, rfl, rfl, rfl⟩) (fun _ => rfl) (fun _ => takes_of rfl rfl rfl rfl) (fun _ => rfl))) (dss_nil))
  (dss_cons (ds_setO (by decide) (by rfl) (df_lst (das_nil)) (fun _ _ p => ps_set (i := 1) sc_whole.nd rfl (.inl rfl) p))
  (dss_cons (ds_while (fun _ => passes_of rfl) (dt_op2 ok_rI0b (da_s (fun _ => pv 0)) (da_t (de_int)) (fun _ _ _ p q => pt_cmpR op_ge p q (nomark _))) (dss_cons (ds_append (j := 1) (de_op2 ok_addG (da_t (de_int)) (da_t (de_op2 ok_mod (da_s (fun _ => pv 0)) (da_t (de_int)) (fun _ _ _ p q => pe_op op_mod p q))) (fun _ _ _ p q => pe_op op_addAny p q)) (fun _ _ p => ps_expr (pe_bm PySem.F.plainAttrs_list PySem.F.slot_list_append PySem.F.type_list_append mt_append (pv 1) (pa_cons p pa_nil))))
  (dss_one (ds_aug (i := 0) (by decide) (by rfl) ok_div (da_t (de_int)) (fun _ _ p => ps_aug sc_whole.nd rfl (.inl rfl) p iop_fdivW)))))
  (dss_cons (ds_append (j := 1) (de_v (fun _ => pv 0)) (fun _ _ p => ps_expr (pe_bm PySem.F.plainAttrs_list PySem.F.slot_list_append PySem.F.type_list_append mt_append (pv 1) (pa_cons p pa_nil))))
  (dss_one (ds_ret (df_of_de (de_opN ok_tuple (das_cons (da_s (fun _ => pv 1)) (das_nil)) (fun _ _ p => pe_callTy call_tuple_of (by rfl) T.z_tuple (by decide +kernel) p))))))))
abbrev s_part : Stmt := (top 26)
abbrev N_part : List Str := ["kind", "many"]
theorem sc_part : FnScope N_part ["kind", "many"] (defScope s_part) := ⟨rfl, rfl, rfl, by decide +kernel, rfl, by decide +kernel, by decide +kernel⟩
def b_part (A : Ads) : En → Out Fl := retF (valO (ifV (tstD (op2 gtI (slotA 1) (tA (cD (.int 0))))) (viewD (callD (d_whole A) (consA (tA (op2 addG (tA (op2 mulI (tA (cD (.int 3))) (slotA 1))) (slotA 0))) (nilA)))) (tupF (nilA))))
def d_part (A : Ads) : Fn := fnD (b_part A) 2 [true, true]
theorem ok_part {f : Addr} {fd : FuncData} (T : Txt K mg A) (F : L2.Fun K "_part" "_part" s_part f fd) (K_whole : Kn P w K mg base "whole" 4 ["number"] (d_whole A)) : FnOk P w K mg base (L2.CX P w) 5 f fd ["kind", "many"] (SpD K (d_part A)) :=
  fn_ok F sc_part rfl fun cdv AA outer s H E hr => dss_one (ds_ret (df_of_de (de_if (dt_op2 ok_rI0b (da_s (fun _ => pv 1)) (da_t (de_int)) (fun _ _ _ p q => pt_cmpR op_gt p q (nomark _))) (de_of_df (df_kn K_whole (fun _ => ⟨rfl, rfl, rfl, rfl, rfl⟩) (fun _ => hr.mono (by decide)) (fun _ => by rfl) (fun _ => takes_of rfl rfl rfl rfl) (das_cons (da_t (de_op2 ok_addG (da_t (de_op2 ok_mul (da_t (de_int)) (da_s (fun _ => pv 1)) (fun _ _ _ p q => pe_op op_mul p q))) (da_s (fun _ => pv 0)) (fun _ _ _ p q => pe_op op_addAny p q))) (das_nil)))) (de_tup (das_nil)))))
abbrev s_change : Stmt := (top 25)
abbrev N_change : List Str := ["one", "other", "begin", "end", "fresh", "parts"]
theorem sc_change : FnScope N_change ["one", "other"] (defScope s_change) := ⟨rfl, rfl, rfl, by decide +kernel, rfl, by decide +kernel, by decide +kernel⟩
def b_change (A : Ads) : En → Out Fl := seqD (dropD (viewD (callD (d_check_rows A) (consA (tA (tupF (consA (slotA 0) (consA (slotA 1) (nilA))))) (nilA)))))
  (seqD (setD 2 (viewD (callD (d_many_alike A) (consA (slotA 0) (consA (slotA 1) (nilA))))))
  (seqD (setD 3 (viewD (callD (d_many_alike A) (consA (tA (slG (slP (-1)) (tA (slG slA (slotA 0) (someP (slotA 2)) (noP))) (noP) (noP))) (consA (tA (slG (slP (-1)) (tA (slG slA (slotA 1) (someP (slotA 2)) (noP))) (noP) (noP))) (nilA))))))
  (seqD (setD 4 (slG slA (slotA 1) (someP (slotA 2)) (someP (tA (op2 subI (tA (opN (on1 lenS) (consA (slotA 1) (nilA)))) (slotA 3))))))
  (seqD (setD 5 (viewD (callD (d_part A) (consA (tA (cD (.int 0))) (consA (slotA 2) (nilA))))))
  (seqD (ifD (tstD (op2 gtI (slotA 3) (tA (cD (.int 0))))) (setD 5 (op2 augG (slotA 5) (tA (viewD (callD (d_part A) (consA (tA (cD (.int 1))) (consA (tA (op2 subI (tA (op2 subI (tA (opN (on1 lenS) (consA (slotA 0) (nilA)))) (slotA 2))) (slotA 3))) (nilA)))))))) (nxD))
  (retF (valO (op2 addG (tA (op2 addG (tA (op2 addG (slotA 5) (tA (viewD (callD (d_part A) (consA (tA (cD (.int 2))) (consA (tA (opN (on1 lenS) (consA (slotA 4) (nilA)))) (nilA)))))))) (slotA 4))) (tA (viewD (callD (d_part A) (consA (tA (cD (.int 0))) (consA (slotA 3) (nilA))))))))))))))
def d_change (A : Ads) : Fn := fnD (b_change A) 6 [true, true]
theorem ok_change {f : Addr} {fd : FuncData} (T : Txt K mg A) (F : L2.Fun K "change" "change" s_change f fd) (K_check_rows : Kn P w K mg base "_check_rows" 3 ["rows"] (d_check_rows A)) (K_many_alike : Kn P w K mg base "_many_alike" 1 ["one", "other"] (d_many_alike A)) (K_part : Kn P w K mg base "_part" 5 ["kind", "many"] (d_part A)) : FnOk P w K mg base (L2.CX P w) 6 f fd ["one", "other"] (SpD K (d_change A)) :=
  fn_ok F sc_change rfl fun cdv AA outer s H E hr => dss_cons (ds_drop (de_of_df (df_kn K_check_rows (fun _ => ⟨rfl, rfl, rfl, rfl, rfl⟩) (fun _ => hr.mono (by decide)) (fun _ => by rfl) (fun _ => takes_of rfl rfl rfl rfl) (das_cons (da_t (de_tup (das_cons (da_s (fun _ => pv 0)) (das_cons (da_s (fun _ => pv 1)) (das_nil))))) (das_nil)))) (fun _ _ p => ps_expr p))
  (dss_cons (ds_set (by decide) (by rfl) (de_of_df (df_kn K_many_alike (fun _ => ⟨rfl, rfl, rfl, rfl, rfl⟩) (fun _ => hr.mono (by decide)) (fun _ => by rfl) (fun _ => takes_of rfl rfl rfl rfl) (das_cons (da_s (fun _ => pv 0)) (das_cons (da_s (fun _ => pv 1)) (das_nil))))) (fun _ _ p => ps_set (i := 2) sc_change.nd rfl (.inl rfl) p))
  (dss_cons (ds_set (by decide) (by rfl) (de_of_df (df_kn K_many_alike (fun _ => ⟨rfl, rfl, rfl, rfl, rfl⟩) (fun _ => hr.mono (by decide)) (fun _ => by rfl) (fun _ => takes_of rfl rfl rfl rfl) (das_cons (da_t (de_sliceS (st := -1) (fun _ => sl_step (by decide) (by decide)) (fun _ => po_neg) ok_slP (da_t (de_slice (fun _ => sl_any) ok_slA (da_s (fun _ => pv 0)) (do_some (da_s (fun _ => pv 2))) (do_none))) (do_none) (do_none))) (das_cons (da_t (de_sliceS (st := -1) (fun _ => sl_step (by decide) (by decide)) (fun _ => po_neg) ok_slP (da_t (de_slice (fun _ => sl_any) ok_slA (da_s (fun _ => pv 1)) (do_some (da_s (fun _ => pv 2))) (do_none))) (do_none) (do_none))) (das_nil))))) (fun _ _ p => ps_set (i := 3) sc_change.nd rfl (.inl rfl) p))
  (dss_cons (ds_set (by decide) (by rfl) (de_slice (fun _ => sl_any) ok_slA (da_s (fun _ => pv 1)) (do_some (da_s (fun _ => pv 2))) (do_some (da_t (de_op2 ok_rI0 (da_t (de_opN ok_len (das_cons (da_s (fun _ => pv 1)) (das_nil)) (fun _ _ p => pe_callB call_len (by rfl) T.z_len (by decide +kernel) p))) (da_s (fun _ => pv 3)) (fun _ _ _ p q => pe_op op_sub p q))))) (fun _ _ p => ps_set (i := 4) sc_change.nd rfl (.inl rfl) p))
  (dss_cons (ds_set (by decide) (by rfl) (de_of_df (df_kn K_part (fun _ => ⟨rfl, rfl, rfl, rfl, rfl⟩) (fun _ => hr.mono (by decide)) (fun _ => by rfl) (fun _ => takes_of rfl rfl rfl rfl) (das_cons (da_t (de_c (v := .int 0) (fun _ => pe_glob (by rfl) T.c_KEEP ⟨_, rfl⟩) (fun _ _ _ => rfl))) (das_cons (da_s (fun _ => pv 2)) (das_nil))))) (fun _ _ p => ps_set (i := 5) sc_change.nd rfl (.inl rfl) p))
  (dss_cons (ds_if (dt_op2 ok_rI0b (da_s (fun _ => pv 3)) (da_t (de_int)) (fun _ _ _ p q => pt_cmpR op_gt p q (nomark _))) (dss_one (ds_aug (i := 5) (by decide) (by rfl) ok_augG (da_t (de_of_df (df_kn K_part (fun _ => ⟨rfl, rfl, rfl, rfl, rfl⟩) (fun _ => hr.mono (by decide)) (fun _ => by rfl) (fun _ => takes_of rfl rfl rfl rfl) (das_cons (da_t (de_c (v := .int 1) (fun _ => pe_glob (by rfl) T.c_LEAVE_OUT ⟨_, rfl⟩) (fun _ _ _ => rfl))) (das_cons (da_t (de_op2 ok_rI0 (da_t (de_op2 ok_rI0 (da_t (de_opN ok_len (das_cons (da_s (fun _ => pv 0)) (das_nil)) (fun _ _ p => pe_callB call_len (by rfl) T.z_len (by decide +kernel) p))) (da_s (fun _ => pv 2)) (fun _ _ _ p q => pe_op op_sub p q))) (da_s (fun _ => pv 3)) (fun _ _ _ p q => pe_op op_sub p q))) (das_nil)))))) (fun _ _ p => ps_aug sc_change.nd rfl (.inl rfl) p iop_augAny))) (dss_nil))
  (dss_one (ds_ret (df_of_de (de_op2 ok_addG (da_t (de_op2 ok_addG (da_t (de_op2 ok_addG (da_s (fun _ => pv 5)) (da_t (de_of_df (df_kn K_part (fun _ => ⟨rfl, rfl, rfl, rfl, rfl⟩) (fun _ => hr.mono (by decide)) (fun _ => by rfl) (fun _ => takes_of rfl rfl rfl rfl) (das_cons (da_t (de_c (v := .int 2) (fun _ => pe_glob (by rfl) T.c_PUT_IN ⟨_, rfl⟩) (fun _ _ _ => rfl))) (das_cons (da_t (de_opN ok_len (das_cons (da_s (fun _ => pv 4)) (das_nil)) (fun _ _ p => pe_callB call_len (by rfl) T.z_len (by decide +kernel) p))) (das_nil)))))) (fun _ _ _ p q => pe_op op_addAny p q))) (da_s (fun _ => pv 4)) (fun _ _ _ p q => pe_op op_addAny p q))) (da_t (de_of_df (df_kn K_part (fun _ => ⟨rfl, rfl, rfl, rfl, rfl⟩) (fun _ => hr.mono (by decide)) (fun _ => by rfl) (fun _ => takes_of rfl rfl rfl rfl) (das_cons (da_t (de_c (v := .int 0) (fun _ => pe_glob (by rfl) T.c_KEEP ⟨_, rfl⟩) (fun _ _ _ => rfl))) (das_cons (da_s (fun _ => pv 3)) (das_nil)))))) (fun _ _ _ p q => pe_op op_addAny p q))))))))))
abbrev s_law_is_integer : Stmt := (top 33)
abbrev N_law_is_integer : List Str := ["thing"]
theorem sc_law_is_integer : FnScope N_law_is_integer ["thing"] (defScope s_law_is_integer) := ⟨rfl, rfl, rfl, by decide +kernel, rfl, by decide +kernel, by decide +kernel⟩
def b_law_is_integer (A : Ads) : En → Out Fl := retF (valO (andV (op1 (isiG (tbB "int")) (slotA 0)) (notV (op1 (isiG (tbB "bool")) (slotA 0)))))
def d_law_is_integer (A : Ads) : Fn := fnD (b_law_is_integer A) 1 [true]
theorem ok_law_is_integer {f : Addr} {fd : FuncData} (T : Txt K mg A) (F : L2.Fun K "_law_is_integer" "_law_is_integer" s_law_is_integer f fd) : FnOk P w K mg base (L2.CX P w) 1 f fd ["thing"] (SpD K (d_law_is_integer A)) :=
  fn_ok F sc_law_is_integer rfl fun cdv AA outer s H E hr => dss_one (ds_ret (df_of_de (de_and (de_op1 (ok_isi (.ty "int") tbB_ok) (da_s (fun _ => pv 0)) (fun _ _ p => pe_callB call_isi (by rfl) T.z_isinstance (by decide +kernel) (pa_cons p (pa_cons (pe_bltn (v := .ty "int") (u := .type "int") (by rfl) T.z_int (by decide +kernel) rfl) pa_nil)))) (de_one (de_not (de_op1 (ok_isi (.ty "bool") tbB_ok) (da_s (fun _ => pv 0)) (fun _ _ p => pe_callB call_isi (by rfl) T.z_isinstance (by decide +kernel) (pa_cons p (pa_cons (pe_bltn (v := .ty "bool") (u := .type "bool") (by rfl) T.z_bool (by decide +kernel) rfl) pa_nil)))))))))
abbrev s_law_same : Stmt := (top 35)
abbrev N_law_same : List Str := ["actual", "due", "one", "other"]
theorem sc_law_same : FnScope N_law_same ["actual", "due"] (defScope s_law_same) := ⟨rfl, rfl, rfl, by decide +kernel, rfl, by decide +kernel, by decide +kernel⟩
def b_law_same_l0 (A : Ads) (F_self : Fn) : En → Out Fl := ifD (notT (truE (tA (viewD (callD F_self (consA (slotA 2) (consA (slotA 3) (nilA)))))))) (retF (valO (cD (.bl false)))) (nxD)
def b_law_same (A : Ads) (F_self : Fn) : En → Out Fl := seqD (ifD (tstD (op2 isA (slotA 1) (tA (cD .non)))) (retF (valO (op2 isA (slotA 0) (tA (cD .non))))) (nxD))
  (seqD (ifD (tstD (op2 isA (slotA 1) (tA (cD (.bl true))))) (retF (valO (op2 isA (slotA 0) (tA (cD (.bl true)))))) (nxD))
  (seqD (ifD (tstD (op2 isA (slotA 1) (tA (cD (.bl false))))) (retF (valO (op2 isA (slotA 0) (tA (cD (.bl false)))))) (nxD))
  (seqD (ifD (truE (tA (op1 (isiG (tbB "int")) (slotA 1)))) (retF (valO (andV (viewD (callD (d_law_is_integer A) (consA (slotA 0) (nilA)))) (op2 eqA (slotA 0) (slotA 1))))) (nxD))
  (seqD (ifD (truE (tA (op1 (isiG (tbB "str")) (slotA 1)))) (retF (valO (andV (op1 (isiG (tbB "str")) (slotA 0)) (op2 eqA (slotA 0) (slotA 1))))) (nxD))
  (seqD (ifD (orT (tstD (op2 neA (tA (op1 (isiG (tbB "tuple")) (slotA 1))) (tA (op1 (isiG (tbB "tuple")) (slotA 0))))) (tstD (op2 neA (tA (op1 (isiG (tbB "list")) (slotA 1))) (tA (op1 (isiG (tbB "list")) (slotA 0)))))) (retF (valO (cD (.bl false)))) (nxD))
  (seqD (ifD (tstD (op2 neA (tA (opN (on1 lenS) (consA (slotA 0) (nilA)))) (tA (opN (on1 lenS) (consA (slotA 1) (nilA)))))) (retF (valO (cD (.bl false)))) (nxD))
  (seqD (forS (asgT 2 (asgCons (asgN 2) (asgCons (asgN 3) (asgNil)))) (walkA zipItems (consA (slotA 0) (consA (slotA 1) (nilA)))) (b_law_same_l0 A F_self))
  (retF (valO (cD (.bl true)))))))))))
def d_law_same_ (A : Ads) : Nat → Fn
  | 0 => fun _ => .bad
  | n + 1 => fnD (b_law_same A (d_law_same_ A n)) 4 [true, true]
def d_law_same (A : Ads) : Fn := d_law_same_ A 8
theorem st_law_same {f : Addr} {fd : FuncData} {F_self : Fn} {k : Nat} (T : Txt K mg A) (F : L2.Fun K "_law_same" "_law_same" s_law_same f fd) (K_law_is_integer : Kn P w K mg base "_law_is_integer" 1 ["thing"] (d_law_is_integer A)) (hk : 2 ≤ k) (K_self : Kn P w K mg base "_law_same" k ["actual", "due"] F_self) : FnOk P w K mg base (L2.CX P w) (k + 1) f fd ["actual", "due"] (SpD K (fnD (b_law_same A F_self) N_law_same.length [true, true])) :=
  fn_ok F sc_law_same rfl fun cdv AA outer s H E hr => dss_cons (ds_if (dt_op2 ok_isA (da_s (fun _ => pv 1)) (da_t (de_non)) (fun _ _ _ p q => pt_cmpR op_isAny p q (nomark _))) (dss_one (ds_ret (df_of_de (de_op2 ok_isA (da_s (fun _ => pv 0)) (da_t (de_non)) (fun _ _ _ p q => pe_cmpR op_isAny p q (nomark _)))))) (dss_nil))
  (dss_cons (ds_if (dt_op2 ok_isA (da_s (fun _ => pv 1)) (da_t (de_bl)) (fun _ _ _ p q => pt_cmpR op_isAny p q (nomark _))) (dss_one (ds_ret (df_of_de (de_op2 ok_isA (da_s (fun _ => pv 0)) (da_t (de_bl)) (fun _ _ _ p q => pe_cmpR op_isAny p q (nomark _)))))) (dss_nil))
  (dss_cons (ds_if (dt_op2 ok_isA (da_s (fun _ => pv 1)) (da_t (de_bl)) (fun _ _ _ p q => pt_cmpR op_isAny p q (nomark _))) (dss_one (ds_ret (df_of_de (de_op2 ok_isA (da_s (fun _ => pv 0)) (da_t (de_bl)) (fun _ _ _ p q => pe_cmpR op_isAny p q (nomark _)))))) (dss_nil))
  (dss_cons (ds_if (dt_truth (fun _ => rfl) (da_t (de_op1 (ok_isi (.ty "int") tbB_ok) (da_s (fun _ => pv 1)) (fun _ _ p => pe_callB call_isi (by rfl) T.z_isinstance (by decide +kernel) (pa_cons p (pa_cons (pe_bltn (v := .ty "int") (u := .type "int") (by rfl) T.z_int (by decide +kernel) rfl) pa_nil)))))) (dss_one (ds_ret (df_of_de (de_and (de_of_df (df_kn K_law_is_integer (fun _ => ⟨rfl, rfl, rfl, rfl, rfl⟩) (fun _ => hr.mono (by omega)) (fun _ => by rfl) (fun _ => takes_of rfl rfl rfl rfl) (das_cons (da_s (fun _ => pv 0)) (das_nil)))) (de_one (de_op2 ok_eqA (da_s (fun _ => pv 0)) (da_s (fun _ => pv 1)) (fun _ _ _ p q => pe_cmpR (op_eqAny hr) p q (nomark _)))))))) (dss_nil))
  (dss_cons (ds_if (dt_truth (fun _ => rfl) (da_t (de_op1 (ok_isi (.ty "str") tbB_ok) (da_s (fun _ => pv 1)) (fun _ _ p => pe_callB call_isi (by rfl) T.z_isinstance (by decide +kernel) (pa_cons p (pa_cons (pe_bltn (v := .ty "str") (u := .type "str") (by rfl) T.z_str (by decide +kernel) rfl) pa_nil)))))) (dss_one (ds_ret (df_of_de (de_and (de_op1 (ok_isi (.ty "str") tbB_ok) (da_s (fun _ => pv 0)) (fun _ _ p => pe_callB call_isi (by rfl) T.z_isinstance (by decide +kernel) (pa_cons p (pa_cons (pe_bltn (v := .ty "str") (u := .type "str") (by rfl) T.z_str (by decide +kernel) rfl) pa_nil)))) (de_one (de_op2 ok_eqA (da_s (fun _ => pv 0)) (da_s (fun _ => pv 1)) (fun _ _ _ p q => pe_cmpR (op_eqAny hr) p q (nomark _)))))))) (dss_nil))
  (dss_cons (ds_if (dt_w (dw_or (dt_op2 ok_neA (da_t (de_op1 (ok_isi (.ty "tuple") tbB_ok) (da_s (fun _ => pv 1)) (fun _ _ p => pe_callB call_isi (by rfl) T.z_isinstance (by decide +kernel) (pa_cons p (pa_cons (pe_bltn (v := .ty "tuple") (u := .type "tuple") (by rfl) T.z_tuple (by decide +kernel) rfl) pa_nil))))) (da_t (de_op1 (ok_isi (.ty "tuple") tbB_ok) (da_s (fun _ => pv 0)) (fun _ _ p => pe_callB call_isi (by rfl) T.z_isinstance (by decide +kernel) (pa_cons p (pa_cons (pe_bltn (v := .ty "tuple") (u := .type "tuple") (by rfl) T.z_tuple (by decide +kernel) rfl) pa_nil))))) (fun _ _ _ p q => pt_cmpR (op_neAny hr) p q (nomark _))) (dw_or1 (dt_op2 ok_neA (da_t (de_op1 (ok_isi (.ty "list") tbB_ok) (da_s (fun _ => pv 1)) (fun _ _ p => pe_callB call_isi (by rfl) T.z_isinstance (by decide +kernel) (pa_cons p (pa_cons (pe_bltn (v := .ty "list") (u := .type "list") (by rfl) T.z_list (by decide +kernel) rfl) pa_nil))))) (da_t (de_op1 (ok_isi (.ty "list") tbB_ok) (da_s (fun _ => pv 0)) (fun _ _ p => pe_callB call_isi (by rfl) T.z_isinstance (by decide +kernel) (pa_cons p (pa_cons (pe_bltn (v := .ty "list") (u := .type "list") (by rfl) T.z_list (by decide +kernel) rfl) pa_nil))))) (fun _ _ _ p q => pt_cmpR (op_neAny hr) p q (nomark _)))))) (dss_one (ds_ret (df_of_de (de_bl)))) (dss_nil))
  (dss_cons (ds_if (dt_op2 ok_neA (da_t (de_opN ok_len (das_cons (da_s (fun _ => pv 0)) (das_nil)) (fun _ _ p => pe_callB call_len (by rfl) T.z_len (by decide +kernel) p))) (da_t (de_opN ok_len (das_cons (da_s (fun _ => pv 1)) (das_nil)) (fun _ _ p => pe_callB call_len (by rfl) T.z_len (by decide +kernel) p))) (fun _ _ _ p q => pt_cmpR (op_neAny hr) p q (nomark _))) (dss_one (ds_ret (df_of_de (de_bl)))) (dss_nil))
  (dss_cons (ds_for (fun _ => passes_of rfl) (fun _ => rfl) (di_zip (fun _ => rfl) (fun _ => by rfl) (fun _ => T.z_zip) (das_cons (da_s (fun _ => pv 0)) (das_cons (da_s (fun _ => pv 1)) (das_nil)))) (dg_tup (m := 2) (fun _ => rfl) (fun _ => rfl) (dgs_cons (dg_name (by decide) (by rfl) (fun _ => pg_name sc_law_same.nd rfl (.inl rfl))) (dgs_cons (dg_name (by decide) (by rfl) (fun _ => pg_name sc_law_same.nd rfl (.inl rfl))) (dgs_nil)))) (dss_one (ds_if (dt_not (dt_truth (fun _ => rfl) (da_t (de_of_df (df_kn K_self (fun _ => ⟨rfl, rfl, rfl, rfl, rfl⟩) (fun _ => hr) (fun _ => by rfl) (fun _ => takes_of rfl rfl rfl rfl) (das_cons (da_s (fun _ => pv 2)) (das_cons (da_s (fun _ => pv 3)) (das_nil)))))))) (dss_one (ds_ret (df_of_de (de_bl)))) (dss_nil))))
  (dss_one (ds_ret (df_of_de (de_bl)))))))))))
abbrev s_whole_at : Stmt := (top 17)
abbrev N_whole_at : List Str := ["row", "at", "number", "worth", "many", "byte"]
theorem sc_whole_at : FnScope N_whole_at ["row", "at"] (defScope s_whole_at) := ⟨rfl, rfl, rfl, by decide +kernel, rfl, by decide +kernel, by decide +kernel⟩
def b_whole_at_l0 (A : Ads) : En → Out Fl := seqD (setD 2 (op2 addI (slotA 2) (tA (op2 mulI (tA (op2 modI (slotA 5) (tA (cD (.int 128))))) (slotA 3)))))
  (seqD (setD 3 (op2 mulI (slotA 3) (tA (cD (.int 128)))))
  (ifD (tstD (op2 ltI (slotA 5) (tA (cD (.int 128))))) (seqD (ifD (orT (tstD (op2 geI (slotA 2) (tA (cD (.int 18446744073709551616))))) (andT (tstD (op2 eqA (slotA 5) (tA (cD (.int 0))))) (tstD (op2 gtI (slotA 4) (tA (cD (.int 0))))))) (raise1D A.BadRow "place" (consA (slotA 1) (nilA))) (nxD))
  (retF (valO (tupF (consA (slotA 2) (consA (tA (op2 addG (tA (op2 addG (slotA 1) (slotA 4))) (tA (cD (.int 1))))) (nilA))))))) (nxD)))
def b_whole_at (A : Ads) : En → Out Fl := seqD (setD 2 (cD (.int 0)))
  (seqD (setD 3 (cD (.int 1)))
  (seqD (forS (asgT 2 (asgCons (asgN 4) (asgCons (asgN 5) (asgNil)))) (walkA enumItemsA (consA (tA (slG slA (slotA 0) (someP (slotA 1)) (someP (tA (op2 addG (slotA 1) (tA (cD (.int 10)))))))) (nilA))) (b_whole_at_l0 A))
  (raise1D A.BadRow "place" (consA (slotA 1) (nilA)))))
def d_whole_at (A : Ads) : Fn := fnD (b_whole_at A) 6 [true, true]
theorem ok_whole_at {f : Addr} {fd : FuncData} (T : Txt K mg A) (F : L2.Fun K "whole_at" "whole_at" s_whole_at f fd) (K_BadRow : Er1 P w K mg base "BadRow" A.BadRow "place") : FnOk P w K mg base (L2N.CX P w) 3 f fd ["row", "at"] (SpD K (d_whole_at A)) :=
  fn_okG F sc_whole_at rfl fun cdv AA outer s H E hr => dss_cons (ds_set (by decide) (by rfl) (de_int) (fun _ _ p => ps_set (i := 2) sc_whole_at.nd rfl (.inl rfl) p))
  (dss_cons (ds_set (by decide) (by rfl) (de_int) (fun _ _ p => ps_set (i := 3) sc_whole_at.nd rfl (.inl rfl) p))
  (dss_cons (ds_for (fun _ => passes_of rfl) (fun _ => rfl) (di_enumA (fun _ => rfl) (fun _ => by rfl) (fun _ => T.z_enumerate) (das_cons (da_t (de_slice (fun _ => sl_any) ok_slA (da_s (fun _ => pv 0)) (do_some (da_s (fun _ => pv 1))) (do_some (da_t (de_op2 ok_addG (da_s (fun _ => pv 1)) (da_t (de_c (v := .int 10) (fun _ => pe_glob (by rfl) T.c_MOST_FIGURES ⟨_, rfl⟩) (fun _ _ _ => rfl))) (fun _ _ _ p q => pe_op op_addAny p q)))))) (das_nil))) (dg_tup (m := 2) (fun _ => rfl) (fun _ => rfl) (dgs_cons (dg_name (by decide) (by rfl) (fun _ => pg_name sc_whole_at.nd rfl (.inl rfl))) (dgs_cons (dg_name (by decide) (by rfl) (fun _ => pg_name sc_whole_at.nd rfl (.inl rfl))) (dgs_nil)))) (dss_cons (ds_aug (i := 2) (by decide) (by rfl) ok_rI0 (da_t (de_op2 ok_mul (da_t (de_op2 ok_mod (da_s (fun _ => pv 5)) (da_t (de_int)) (fun _ _ _ p q => pe_op op_mod p q))) (da_s (fun _ => pv 3)) (fun _ _ _ p q => pe_op op_mul p q))) (fun _ _ p => ps_aug sc_whole_at.nd rfl (.inl rfl) p iop_add))
  (dss_cons (ds_aug (i := 3) (by decide) (by rfl) ok_mul (da_t (de_int)) (fun _ _ p => ps_aug sc_whole_at.nd rfl (.inl rfl) p iop_mul))
  (dss_one (ds_if (dt_op2 ok_rI0b (da_s (fun _ => pv 5)) (da_t (de_int)) (fun _ _ _ p q => pt_cmpR op_lt p q (nomark _))) (dss_cons (ds_if (dt_w (dw_or (dt_op2 ok_rI0b (da_s (fun _ => pv 2)) (da_t (de_c (v := .int 18446744073709551616) (fun _ => pe_glob (by rfl) T.c_WHOLES ⟨_, rfl⟩) (fun _ _ _ => rfl))) (fun _ _ _ p q => pt_cmpR op_ge p q (nomark _))) (dw_or1 (dt_w (dw_and (dt_op2 ok_eqA (da_s (fun _ => pv 5)) (da_t (de_int)) (fun _ _ _ p q => pt_cmpR (op_eqAny hr) p q (nomark _))) (dw_and1 (dt_op2 ok_rI0b (da_s (fun _ => pv 4)) (da_t (de_int)) (fun _ _ _ p q => pt_cmpR op_gt p q (nomark _))))))))) (dss_one (ds_er1N K_BadRow (fun _ => ⟨rfl, rfl, rfl, rfl, rfl⟩) (fun _ => hr.mono (by decide)) (fun _ => rfl) (fun _ => L2N.takes_of rfl rfl rfl rfl) (fun _ => rfl) (das_cons (da_s (fun _ => pv 1)) (das_nil)))) (dss_nil))
  (dss_one (ds_ret (df_of_de (de_tup (das_cons (da_s (fun _ => pv 2)) (das_cons (da_t (de_op2 ok_addG (da_t (de_op2 ok_addG (da_s (fun _ => pv 1)) (da_s (fun _ => pv 4)) (fun _ _ _ p q => pe_op op_addAny p q))) (da_t (de_int)) (fun _ _ _ p q => pe_op op_addAny p q))) (das_nil)))))))) (dss_nil))))))
  (dss_one (ds_er1N K_BadRow (fun _ => ⟨rfl, rfl, rfl, rfl, rfl⟩) (fun _ => hr.mono (by decide)) (fun _ => rfl) (fun _ => L2N.takes_of rfl rfl rfl rfl) (fun _ => rfl) (das_cons (da_s (fun _ => pv 1)) (das_nil))))))
abbrev s_part_at : Stmt := (top 24)
abbrev N_part_at : List Str := ["parts", "at", "number", "behind", "kind", "many"]
theorem sc_part_at : FnScope N_part_at ["parts", "at"] (defScope s_part_at) := ⟨rfl, rfl, rfl, by decide +kernel, rfl, by decide +kernel, by decide +kernel⟩
def b_part_at (A : Ads) : En → Out Fl := seqD (tryHx (asgS (asgT 2 (asgCons (asgN 2) (asgCons (asgN 3) (asgNil)))) (viewD (callD (d_whole_at A) (consA (slotA 0) (consA (slotA 1) (nilA)))))) (clsT (ct_BadRow A)) (raise1D A.BadChange "place" (consA (slotA 1) (nilA))))
  (seqD (setD 4 (op2 modI (slotA 2) (tA (cD (.int 3)))))
  (seqD (setD 5 (op2 divI (slotA 2) (tA (cD (.int 3)))))
  (seqD (ifD (tstD (op2 eqA (slotA 4) (tA (cD (.int 2))))) (setD 3 (op2 addI (slotA 3) (slotA 5))) (nxD))
  (seqD (ifD (orT (tstD (op2 eqA (slotA 5) (tA (cD (.int 0))))) (tstD (op2 gtI (slotA 3) (tA (opN (on1 lenS) (consA (slotA 0) (nilA))))))) (raise1D A.BadChange "place" (consA (slotA 1) (nilA))) (nxD))
  (retF (valO (tupF (consA (slotA 4) (consA (slotA 5) (consA (slotA 3) (nilA)))))))))))
def d_part_at (A : Ads) : Fn := fnD (b_part_at A) 6 [true, true]
theorem ok_part_at {f : Addr} {fd : FuncData} (T : Txt K mg A) (F : L2.Fun K "_part_at" "_part_at" s_part_at f fd) (K_whole_at : KnN P w K mg base "whole_at" 3 ["row", "at"] (d_whole_at A)) (K_BadChange : Er1 P w K mg base "BadChange" A.BadChange "place") (K_H_BadChange : Er1H P w K mg base "BadChange" A.BadChange "place") : FnOk P w K mg base (L2.CX P w) 4 f fd ["parts", "at"] (SpD K (d_part_at A)) :=
  fn_ok F sc_part_at rfl fun cdv AA outer s H E hr => dss_cons (ds_tryHx (fun _ => rfl) (fun _ => rfl) (fun _ => rfl) (fun _ => takes_of rfl rfl rfl rfl) (fun _ => L2H.passesAt_of rfl) (fun _ => ⟨rfl, by decide, .inl T.gg_BadRow⟩) (clsT_ok T.x_BadRow) (dss_one (ds_asgG (de_of_df (df_knN K_whole_at (fun _ => ⟨rfl, rfl, rfl, rfl, rfl⟩) (fun _ => hr.mono (by decide)) (fun _ => by rfl) (fun i => i.tk) (das_cons (da_s (fun _ => pv 0)) (das_cons (da_s (fun _ => pv 1)) (das_nil))))) (dg_tup (m := 2) (fun _ => rfl) (fun _ => rfl) (dgs_cons (dg_name (by decide) (by rfl) (fun _ => pg_name sc_part_at.nd rfl (.inl rfl))) (dgs_cons (dg_name (by decide) (by rfl) (fun _ => pg_name sc_part_at.nd rfl (.inl rfl))) (dgs_nil)))) (fun _ _ _ p g => ps_asg p g))) (dss_one (ds_er1H K_H_BadChange (fun _ => ⟨rfl, rfl, rfl, rfl, rfl⟩) (fun _ => L2H.roomH_mark (hr.mono (by decide)) _) (fun i => i.hot) (fun i => i.tk) (fun _ => rfl) (das_cons (da_s (fun _ => pv 1)) (das_nil)))))
  (dss_cons (ds_set (by decide) (by rfl) (de_op2 ok_mod (da_s (fun _ => pv 2)) (da_t (de_int)) (fun _ _ _ p q => pe_op op_mod p q)) (fun _ _ p => ps_set (i := 4) sc_part_at.nd rfl (.inl rfl) p))
  (dss_cons (ds_set (by decide) (by rfl) (de_op2 ok_div (da_s (fun _ => pv 2)) (da_t (de_int)) (fun _ _ _ p q => pe_op op_fdivW p q)) (fun _ _ p => ps_set (i := 5) sc_part_at.nd rfl (.inl rfl) p))
  (dss_cons (ds_if (dt_op2 ok_eqA (da_s (fun _ => pv 4)) (da_t (de_c (v := .int 2) (fun _ => pe_glob (by rfl) T.c_PUT_IN ⟨_, rfl⟩) (fun _ _ _ => rfl))) (fun _ _ _ p q => pt_cmpR (op_eqAny hr) p q (nomark _))) (dss_one (ds_aug (i := 3) (by decide) (by rfl) ok_rI0 (da_s (fun _ => pv 5)) (fun _ _ p => ps_aug sc_part_at.nd rfl (.inl rfl) p iop_add))) (dss_nil))
  (dss_cons (ds_if (dt_w (dw_or (dt_op2 ok_eqA (da_s (fun _ => pv 5)) (da_t (de_int)) (fun _ _ _ p q => pt_cmpR (op_eqAny hr) p q (nomark _))) (dw_or1 (dt_op2 ok_rI0b (da_s (fun _ => pv 3)) (da_t (de_opN ok_len (das_cons (da_s (fun _ => pv 0)) (das_nil)) (fun _ _ p => pe_callB call_len (by rfl) T.z_len (by decide +kernel) p))) (fun _ _ _ p q => pt_cmpR op_gt p q (nomark _)))))) (dss_one (ds_er1 K_BadChange (fun _ => ⟨rfl, rfl, rfl, rfl, rfl⟩) (fun _ => hr.mono (by decide)) (fun _ => rfl) (fun _ => takes_of rfl rfl rfl rfl) (fun _ => rfl) (das_cons (da_s (fun _ => pv 1)) (das_nil)))) (dss_nil))
  (dss_one (ds_ret (df_of_de (de_tup (das_cons (da_s (fun _ => pv 4)) (das_cons (da_s (fun _ => pv 5)) (das_cons (da_s (fun _ => pv 3)) (das_nil))))))))))))
abbrev s_changed : Stmt := (top 23)
abbrev N_changed : List Str := ["one", "parts", "made", "taken", "at", "kind", "many", "behind"]
theorem sc_changed : FnScope N_changed ["one", "parts"] (defScope s_changed) := ⟨rfl, rfl, rfl, by decide +kernel, rfl, by decide +kernel, by decide +kernel⟩
def b_changed_l0 (A : Ads) : En → Out Fl := seqD (asgS (asgT 3 (asgCons (asgN 5) (asgCons (asgN 6) (asgCons (asgN 7) (asgNil))))) (viewD (callD (d_part_at A) (consA (slotA 1) (consA (slotA 4) (nilA))))))
  (seqD (ifD (tstD (op2 eqA (slotA 5) (tA (cD (.int 2))))) (extD 2 (slG slA (slotA 1) (someP (tA (op2 subI (slotA 7) (slotA 6)))) (someP (slotA 7)))) (ifD (tstD (op2 gtI (slotA 6) (tA (op2 subI (tA (opN (on1 lenS) (consA (slotA 0) (nilA)))) (slotA 3))))) (raise1D A.BadChange "place" (consA (slotA 4) (nilA))) (seqD (ifD (tstD (op2 eqA (slotA 5) (tA (cD (.int 0))))) (extD 2 (slG slA (slotA 0) (someP (slotA 3)) (someP (tA (op2 addG (slotA 3) (slotA 6)))))) (nxD))
  (setD 3 (op2 addI (slotA 3) (slotA 6))))))
  (setD 4 (slotD 7)))
def b_changed (A : Ads) : En → Out Fl := seqD (dropD (viewD (callD (d_check_rows A) (consA (tA (tupF (consA (slotA 0) (consA (slotA 1) (nilA))))) (nilA)))))
  (seqD (setO 2 (lstF (nilA)))
  (seqD (setD 3 (cD (.int 0)))
  (seqD (setD 4 (cD (.int 0)))
  (seqD (whileL (tstD (op2 ltI (slotA 4) (tA (opN (on1 lenS) (consA (slotA 1) (nilA)))))) (b_changed_l0 A))
  (retF (valO (opN (on1 tupS) (consA (slotA 2) (nilA)))))))))
def d_changed (A : Ads) : Fn := fnD (b_changed A) 8 [true, true]
theorem ok_changed {f : Addr} {fd : FuncData} (T : Txt K mg A) (F : L2.Fun K "changed" "changed" s_changed f fd) (K_check_rows : Kn P w K mg base "_check_rows" 3 ["rows"] (d_check_rows A)) (K_part_at : Kn P w K mg base "_part_at" 4 ["parts", "at"] (d_part_at A)) (K_BadChange : Er1 P w K mg base "BadChange" A.BadChange "place") : FnOk P w K mg base (L2.CX P w) 5 f fd ["one", "parts"] (SpD K (d_changed A)) :=
  fn_ok F sc_changed rfl fun cdv AA outer s H E hr => dss_cons (ds_drop (de_of_df (df_kn K_check_rows (fun _ => ⟨rfl, rfl, rfl, rfl, rfl⟩) (fun _ => hr.mono (by decide)) (fun _ => by rfl) (fun _ => takes_of rfl rfl rfl rfl) (das_cons (da_t (de_tup (das_cons (da_s (fun _ => pv 0)) (das_cons (da_s (fun _ => pv 1)) (das_nil))))) (das_nil)))) (fun _ _ p => ps_expr p))
  (dss_cons (ds_setO (by decide) (by rfl) (df_lst (das_nil)) (fun _ _ p => ps_set (i := 2) sc_changed.nd rfl (.inl rfl) p))
  (dss_cons (ds_set (by decide) (by rfl) (de_int) (fun _ _ p => ps_set (i := 3) sc_changed.nd rfl (.inl rfl) p))
  (dss_cons (ds_set (by decide) (by rfl) (de_int) (fun _ _ p => ps_set (i := 4) sc_changed.nd rfl (.inl rfl) p))
  (dss_cons (ds_while (fun _ => passes_of rfl) (dt_op2 ok_rI0b (da_s (fun _ => pv 4)) (da_t (de_opN ok_len (das_cons (da_s (fun _ => pv 1)) (das_nil)) (fun _ _ p => pe_callB call_len (by rfl) T.z_len (by decide +kernel) p))) (fun _ _ _ p q => pt_cmpR op_lt p q (nomark _))) (dss_cons (ds_asgG (de_of_df (df_kn K_part_at (fun _ => ⟨rfl, rfl, rfl, rfl, rfl⟩) (fun _ => hr.mono (by decide)) (fun _ => by rfl) (fun _ => takes_of rfl rfl rfl rfl) (das_cons (da_s (fun _ => pv 1)) (das_cons (da_s (fun _ => pv 4)) (das_nil))))) (dg_tup (m := 3) (fun _ => rfl) (fun _ => rfl) (dgs_cons (dg_name (by decide) (by rfl) (fun _ => pg_name sc_changed.nd rfl (.inl rfl))) (dgs_cons (dg_name (by decide) (by rfl) (fun _ => pg_name sc_changed.nd rfl (.inl rfl))) (dgs_cons (dg_name (by decide) (by rfl) (fun _ => pg_name sc_changed.nd rfl (.inl rfl))) (dgs_nil))))) (fun _ _ _ p g => ps_asg p g))
  (dss_cons (ds_if (dt_op2 ok_eqA (da_s (fun _ => pv 5)) (da_t (de_c (v := .int 2) (fun _ => pe_glob (by rfl) T.c_PUT_IN ⟨_, rfl⟩) (fun _ _ _ => rfl))) (fun _ _ _ p q => pt_cmpR (op_eqAny hr) p q (nomark _))) (dss_one (ds_extend (j := 2) (de_slice (fun _ => sl_any) ok_slA (da_s (fun _ => pv 1)) (do_some (da_t (de_op2 ok_rI0 (da_s (fun _ => pv 7)) (da_s (fun _ => pv 6)) (fun _ _ _ p q => pe_op op_sub p q)))) (do_some (da_s (fun _ => pv 7)))) (fun _ _ p => ps_expr (pe_bm PySem.F.plainAttrs_list PySem.F.slot_list_extend PySem.F.type_list_extend mt_extendT (pv 2) (pa_cons p pa_nil))))) (dss_one (ds_if (dt_op2 ok_rI0b (da_s (fun _ => pv 6)) (da_t (de_op2 ok_rI0 (da_t (de_opN ok_len (das_cons (da_s (fun _ => pv 0)) (das_nil)) (fun _ _ p => pe_callB call_len (by rfl) T.z_len (by decide +kernel) p))) (da_s (fun _ => pv 3)) (fun _ _ _ p q => pe_op op_sub p q))) (fun _ _ _ p q => pt_cmpR op_gt p q (nomark _))) (dss_one (ds_er1 K_BadChange (fun _ => ⟨rfl, rfl, rfl, rfl, rfl⟩) (fun _ => hr.mono (by decide)) (fun _ => rfl) (fun _ => takes_of rfl rfl rfl rfl) (fun _ => rfl) (das_cons (da_s (fun _ => pv 4)) (das_nil)))) (dss_cons (ds_if (dt_op2 ok_eqA (da_s (fun _ => pv 5)) (da_t (de_c (v := .int 0) (fun _ => pe_glob (by rfl) T.c_KEEP ⟨_, rfl⟩) (fun _ _ _ => rfl))) (fun _ _ _ p q => pt_cmpR (op_eqAny hr) p q (nomark _))) (dss_one (ds_extend (j := 2) (de_slice (fun _ => sl_any) ok_slA (da_s (fun _ => pv 0)) (do_some (da_s (fun _ => pv 3))) (do_some (da_t (de_op2 ok_addG (da_s (fun _ => pv 3)) (da_s (fun _ => pv 6)) (fun _ _ _ p q => pe_op op_addAny p q))))) (fun _ _ p => ps_expr (pe_bm PySem.F.plainAttrs_list PySem.F.slot_list_extend PySem.F.type_list_extend mt_extendT (pv 2) (pa_cons p pa_nil))))) (dss_nil))
  (dss_one (ds_aug (i := 3) (by decide) (by rfl) ok_rI0 (da_s (fun _ => pv 6)) (fun _ _ p => ps_aug sc_changed.nd rfl (.inl rfl) p iop_add)))))))
  (dss_one (ds_set (by decide) (by rfl) (de_v (fun _ => pv 7)) (fun _ _ p => ps_set (i := 4) sc_changed.nd rfl (.inl rfl) p))))))
  (dss_one (ds_ret (df_of_de (de_opN ok_tuple (das_cons (da_s (fun _ => pv 2)) (das_nil)) (fun _ _ p => pe_callTy call_tuple_of (by rfl) T.z_tuple (by decide +kernel) p)))))))))
abbrev s_is_change : Stmt := (top 28)
abbrev N_is_change : List Str := ["one", "other", "thing"]
theorem sc_is_change : FnScope N_is_change ["one", "other", "thing"] (defScope s_is_change) := ⟨rfl, rfl, rfl, by decide +kernel, rfl, by decide +kernel, by decide +kernel⟩
def b_is_change (A : Ads) : En → Out Fl := seqD (dropD (viewD (callD (d_check_rows A) (consA (tA (tupF (consA (slotA 0) (consA (slotA 1) (nilA))))) (nilA)))))
  (tryD (retF (valO (op2 eqA (tA (viewD (callD (d_changed A) (consA (slotA 0) (consA (slotA 2) (nilA)))))) (slotA 1)))) ((clsT2 (ct_NoRow A) (ct_BadChange A), retF (valO (cD (.bl false)))) :: []))
def d_is_change (A : Ads) : Fn := fnD (b_is_change A) 3 [true, true, true]
theorem ok_is_change {f : Addr} {fd : FuncData} (T : Txt K mg A) (F : L2.Fun K "is_change" "is_change" s_is_change f fd) (K_check_rows : Kn P w K mg base "_check_rows" 3 ["rows"] (d_check_rows A)) (K_changed : Kn P w K mg base "changed" 5 ["one", "parts"] (d_changed A)) : FnOk P w K mg base (L2.CX P w) 6 f fd ["one", "other", "thing"] (SpD K (d_is_change A)) :=
  fn_ok F sc_is_change rfl fun cdv AA outer s H E hr => dss_cons (ds_drop (de_of_df (df_kn K_check_rows (fun _ => ⟨rfl, rfl, rfl, rfl, rfl⟩) (fun _ => hr.mono (by decide)) (fun _ => by rfl) (fun _ => takes_of rfl rfl rfl rfl) (das_cons (da_t (de_tup (das_cons (da_s (fun _ => pv 0)) (das_cons (da_s (fun _ => pv 1)) (das_nil))))) (das_nil)))) (fun _ _ p => ps_expr p))
  (dss_one (ds_try2 (fun _ => rfl) (fun _ => rfl) (fun _ => rfl) (fun _ => takes_of rfl rfl rfl rfl) (fun _ => ⟨rfl, by decide, .inl T.gg_NoRow⟩) (fun _ => ⟨rfl, by decide, .inl T.gg_BadChange⟩) (clsT2_ok T.x_NoRow T.x_BadChange) (dss_one (ds_ret (df_of_de (de_op2 ok_eqA (da_t (de_of_df (df_kn K_changed (fun _ => ⟨rfl, rfl, rfl, rfl, rfl⟩) (fun _ => hr.mono (by decide)) (fun _ => by rfl) (fun i => i.tk) (das_cons (da_s (fun _ => pv 0)) (das_cons (da_s (fun _ => pv 2)) (das_nil)))))) (da_s (fun _ => pv 1)) (fun _ _ _ p q => pe_cmpR (op_eqAny hr) p q (nomark _)))))) (dss_one (ds_ret (df_of_de (de_bl))))))
abbrev s_law_refused : Stmt := (top 44)
abbrev N_law_refused : List Str := ["one", "other", "found"]
theorem sc_law_refused : FnScope N_law_refused ["one", "other"] (defScope s_law_refused) := ⟨rfl, rfl, rfl, by decide +kernel, rfl, by decide +kernel, by decide +kernel⟩
def b_law_refused (A : Ads) : En → Out Fl := seqD (setD 2 (cD (.int 0)))
  (seqD (tryD (dropD (viewD (callD (d_change A) (consA (slotA 0) (consA (slotA 1) (nilA)))))) ((clsT (ct_NoRow A), setD 2 (op2 addG (slotA 2) (tA (cD (.int 1))))) :: []))
  (seqD (tryD (dropD (viewD (callD (d_is_change A) (consA (slotA 0) (consA (slotA 1) (consA (tA (tupF (nilA))) (nilA))))))) ((clsT (ct_NoRow A), setD 2 (op2 addG (slotA 2) (tA (cD (.int 1))))) :: []))
  (retF (valO (op2 eqA (slotA 2) (tA (cD (.int 2))))))))
def d_law_refused (A : Ads) : Fn := fnD (b_law_refused A) 3 [true, true]
theorem ok_law_refused {f : Addr} {fd : FuncData} (T : Txt K mg A) (F : L2.Fun K "_law_refused" "_law_refused" s_law_refused f fd) (K_change : Kn P w K mg base "change" 6 ["one", "other"] (d_change A)) (K_is_change : Kn P w K mg base "is_change" 6 ["one", "other", "thing"] (d_is_change A)) : FnOk P w K mg base (L2.CX P w) 7 f fd ["one", "other"] (SpD K (d_law_refused A)) :=
  fn_ok F sc_law_refused rfl fun cdv AA outer s H E hr => dss_cons (ds_set (by decide) (by rfl) (de_int) (fun _ _ p => ps_set (i := 2) sc_law_refused.nd rfl (.inl rfl) p))
  (dss_cons (ds_try (fun _ => rfl) (fun _ => rfl) (fun _ => rfl) (fun _ => takes_of rfl rfl rfl rfl) (dss_one (ds_drop (de_of_df (df_kn K_change (fun _ => ⟨rfl, rfl, rfl, rfl, rfl⟩) (fun _ => hr.mono (by decide)) (fun _ => by rfl) (fun i => i.tk) (das_cons (da_s (fun _ => pv 0)) (das_cons (da_s (fun _ => pv 1)) (das_nil))))) (fun _ _ p => ps_expr p))) (.cons (fun _ => ⟨rfl, by decide, .inl T.gg_NoRow⟩) (clsT_ok T.x_NoRow) (dss_one (ds_set (by decide) (by rfl) (de_op2 ok_addG (da_s (fun _ => pv 2)) (da_t (de_int)) (fun _ _ _ p q => pe_op op_addAny p q)) (fun _ _ p => ps_set (i := 2) sc_law_refused.nd rfl (.inl rfl) p))) (.nil)))
  (dss_cons (ds_try (fun _ => rfl) (fun _ => rfl) (fun _ => rfl) (fun _ => takes_of rfl rfl rfl rfl) (dss_one (ds_drop (de_of_df (df_kn K_is_change (fun _ => ⟨rfl, rfl, rfl, rfl, rfl⟩) (fun _ => hr.mono (by decide)) (fun _ => by rfl) (fun i => i.tk) (das_cons (da_s (fun _ => pv 0)) (das_cons (da_s (fun _ => pv 1)) (das_cons (da_t (de_tup (das_nil))) (das_nil)))))) (fun _ _ p => ps_expr p))) (.cons (fun _ => ⟨rfl, by decide, .inl T.gg_NoRow⟩) (clsT_ok T.x_NoRow) (dss_one (ds_set (by decide) (by rfl) (de_op2 ok_addG (da_s (fun _ => pv 2)) (da_t (de_int)) (fun _ _ _ p q => pe_op op_addAny p q)) (fun _ _ p => ps_set (i := 2) sc_law_refused.nd rfl (.inl rfl) p))) (.nil)))
  (dss_one (ds_ret (df_of_de (de_op2 ok_eqA (da_s (fun _ => pv 2)) (da_t (de_int)) (fun _ _ _ p q => pe_cmpR (op_eqAny hr) p q (nomark _))))))))
abbrev s_law_told : Stmt := (top 43)
abbrev N_law_told : List Str := ["one", "thing", "error"]
theorem sc_law_told : FnScope N_law_told ["one", "thing"] (defScope s_law_told) := ⟨rfl, rfl, rfl, by decide +kernel, rfl, by decide +kernel, by decide +kernel⟩
def b_law_told_h0 (A : Ads) : List Str → List D → Option (List D) := (fun ns ds => ((fun ns ds => (look "place" ns ds).bind fun d => ((fun _ _ => some []) ns ds).map (d :: ·)) ns ds).map (.str "BadChange" :: ·))
def b_law_told (A : Ads) : En → Out Fl := tryX (retF (valO (tupF (consA (tA (cD (.str "told"))) (consA (tA (viewD (callD (d_changed A) (consA (slotA 0) (consA (slotA 1) (nilA)))))) (nilA)))))) ((clsT (ct_NoRow A), plainC (retF (valO (tupF (consA (tA (cD (.str "NoRow"))) (nilA)))))) :: (clsT (ct_BadChange A), fieldC A.BadChange (b_law_told_h0 A)) :: [])
def d_law_told (A : Ads) : Fn := fnD (b_law_told A) 3 [true, true]
theorem ok_law_told {f : Addr} {fd : FuncData} (T : Txt K mg A) (F : L2.Fun K "_law_told" "_law_told" s_law_told f fd) (K_changed : Kn P w K mg base "changed" 5 ["one", "parts"] (d_changed A)) : FnOk P w K mg base (L2.CX P w) 6 f fd ["one", "thing"] (SpD K (d_law_told A)) :=
  fn_ok F sc_law_told rfl fun cdv AA outer s H E hr => dss_one (ds_tryX (fun _ => rfl) (fun _ => rfl) (fun _ => rfl) (fun _ => sc_law_told.nd) (fun _ => takes_of rfl rfl rfl rfl) (dss_one (ds_ret (df_of_de (de_tup (das_cons (da_t (de_str)) (das_cons (da_t (de_of_df (df_kn K_changed (fun _ => ⟨rfl, rfl, rfl, rfl, rfl⟩) (fun _ => hr.mono (by decide)) (fun _ => by rfl) (fun i => i.tk) (das_cons (da_s (fun _ => pv 0)) (das_cons (da_s (fun _ => pv 1)) (das_nil)))))) (das_nil))))))) (.un (fun _ => ⟨rfl, by decide, .inl T.gg_NoRow⟩) (clsT_ok T.x_NoRow) (dss_one (ds_ret (df_of_de (de_tup (das_cons (da_t (de_str)) (das_nil)))))) (.nm (i := 2) (h := b_law_told_h0 A) (fun _ => rfl) (fun _ => rfl) (fun _ => ⟨rfl, by decide, .inl T.gg_BadChange⟩) (by decide) (clsT_ok T.x_BadChange) (dxs_str (dxs_fld (fun _ => T.xf_BadChange) (fun _ => T.xn_BadChange_place) (fun _ => pv 2) (dxs_nil))) (.nil))))
abbrev s_law_is_within : Stmt := (top 34)
abbrev N_law_is_within : List Str := ["thing", "least", "most"]
theorem sc_law_is_within : FnScope N_law_is_within ["thing", "least", "most"] (defScope s_law_is_within) := ⟨rfl, rfl, rfl, by decide +kernel, rfl, by decide +kernel, by decide +kernel⟩
def b_law_is_within (A : Ads) : En → Out Fl := retF (valO (andV (viewD (callD (d_law_is_integer A) (consA (slotA 0) (nilA)))) (andV (op2 leI (slotA 1) (slotA 0)) (op2 leI (slotA 0) (slotA 2)))))
def d_law_is_within (A : Ads) : Fn := fnD (b_law_is_within A) 3 [true, true, true]
theorem ok_law_is_within {f : Addr} {fd : FuncData} (T : Txt K mg A) (F : L2.Fun K "_law_is_within" "_law_is_within" s_law_is_within f fd) (K_law_is_integer : Kn P w K mg base "_law_is_integer" 1 ["thing"] (d_law_is_integer A)) : FnOk P w K mg base (L2.CX P w) 2 f fd ["thing", "least", "most"] (SpD K (d_law_is_within A)) :=
  fn_ok F sc_law_is_within rfl fun cdv AA outer s H E hr => dss_one (ds_ret (df_of_de (de_and (de_of_df (df_kn K_law_is_integer (fun _ => ⟨rfl, rfl, rfl, rfl, rfl⟩) (fun _ => hr.mono (by decide)) (fun _ => by rfl) (fun _ => takes_of rfl rfl rfl rfl) (das_cons (da_s (fun _ => pv 0)) (das_nil)))) (de_and (de_op2 ok_rI0b (da_s (fun _ => pv 1)) (da_s (fun _ => pv 0)) (fun _ _ _ p q => pe_cmpR op_le p q (nomark _))) (de_one (de_op2 ok_rI0b (da_s (fun _ => pv 0)) (da_s (fun _ => pv 2)) (fun _ _ _ p q => pe_cmpR op_le p q (nomark _))))))))
abbrev s_law_is_row : Stmt := (top 38)
abbrev N_law_is_row : List Str := ["thing", "byte"]
theorem sc_law_is_row : FnScope N_law_is_row ["thing"] (defScope s_law_is_row) := ⟨rfl, rfl, rfl, by decide +kernel, rfl, by decide +kernel, by decide +kernel⟩
def b_law_is_row_e0 (A : Ads) : En → Out D := slotD 1
def b_law_is_row_t0 (A : Ads) : En → Out Bool := notT (truE (tA (viewD (callD (d_law_is_within A) (consA (slotA 1) (consA (tA (cD (.int 0))) (consA (tA (cD (.int 255))) (nilA))))))))
def b_law_is_row (A : Ads) : En → Out Fl := seqD (ifD (orT (notT (truE (tA (op1 (isiG (tbB "tuple")) (slotA 0))))) (tstD (op2 gtI (tA (opN (on1 lenS) (consA (slotA 0) (nilA)))) (tA (cD (.int 300000)))))) (retF (valO (cD (.bl false)))) (nxD))
  (retF (valO (op2 eqA (tA (opN (on1 lenS) (consA (tA (viewD (lcF (walkI (slotD 0)) (asgN 1) (b_law_is_row_t0 A) (b_law_is_row_e0 A) [1]))) (nilA)))) (tA (cD (.int 0))))))
def d_law_is_row (A : Ads) : Fn := fnD (b_law_is_row A) 2 [true]
theorem ok_law_is_row {f : Addr} {fd : FuncData} (T : Txt K mg A) (F : L2.Fun K "_law_is_row" "_law_is_row" s_law_is_row f fd) (K_law_is_within : Kn P w K mg base "_law_is_within" 2 ["thing", "least", "most"] (d_law_is_within A)) : FnOk P w K mg base (L2.CX P w) 3 f fd ["thing"] (SpD K (d_law_is_row A)) :=
  fn_ok F sc_law_is_row rfl fun cdv AA outer s H E hr => dss_cons (ds_if (dt_w (dw_or (dt_not (dt_truth (fun _ => rfl) (da_t (de_op1 (ok_isi (.ty "tuple") tbB_ok) (da_s (fun _ => pv 0)) (fun _ _ p => pe_callB call_isi (by rfl) T.z_isinstance (by decide +kernel) (pa_cons p (pa_cons (pe_bltn (v := .ty "tuple") (u := .type "tuple") (by rfl) T.z_tuple (by decide +kernel) rfl) pa_nil))))))) (dw_or1 (dt_op2 ok_rI0b (da_t (de_opN ok_len (das_cons (da_s (fun _ => pv 0)) (das_nil)) (fun _ _ p => pe_callB call_len (by rfl) T.z_len (by decide +kernel) p))) (da_t (de_int)) (fun _ _ _ p q => pt_cmpR op_gt p q (nomark _)))))) (dss_one (ds_ret (df_of_de (de_bl)))) (dss_nil))
  (dss_one (ds_ret (df_of_de (de_op2 ok_eqA (da_t (de_opN ok_len (das_cons (da_t (de_of_df (df_lc (own := [("byte", 1)]) (fun _ => rfl) (fun _ => sc_law_is_row.nd) (fun _ => blkOk_by (N := N_law_is_row) (sc := defScope s_law_is_row) (own := [("byte", 1)]) (by decide +kernel)) (by decide) (by decide) (di_any (fun _ => rfl) (de_v (fun _ => pv 0))) (dg_name (by decide) (by rfl) (fun _ => pg_name sc_law_is_row.nd rfl (.inl rfl))) (dts_one (dt_not (dt_truth (fun _ => rfl) (da_t (de_of_df (df_kn K_law_is_within (fun _ => ⟨rfl, rfl, rfl, rfl, rfl⟩) (fun _ => hr.mono (by decide)) (fun _ => by rfl) (fun _ => takes0) (das_cons (da_s (fun _ => pv 1)) (das_cons (da_t (de_int)) (das_cons (da_t (de_int)) (das_nil)))))))))) (de_v (fun _ => pv 1))))) (das_nil)) (fun _ _ p => pe_callB call_len (by rfl) T.z_len (by decide +kernel) p))) (da_t (de_int)) (fun _ _ _ p q => pe_cmpR (op_eqAny hr) p q (nomark _))))))
abbrev s_law : Stmt := (top 45)
abbrev N_law : List Str := ["script", "hand", "one", "k", "thing", "due", "other", "told", "odd"]
theorem sc_law : FnScope N_law ["script"] (defScope s_law) := ⟨rfl, rfl, rfl, by decide +kernel, rfl, by decide +kernel, by decide +kernel⟩
def b_law_q3_8 (A : Ads) : En → Out Fl := seqD (ifD (notT (truE (tA (viewD (callD (d_law_same A) (consA (tA (viewD (callD (d_is_change A) (consA (slotA 2) (consA (slotA 6) (consA (slotA 4) (nilA))))))) (consA (tA (op2 eqA (slotA 5) (tA (tupF (consA (tA (cD (.str "told"))) (consA (slotA 6) (nilA))))))) (nilA)))))))) (retF (valO (cD (.bl false)))) (nxD))
  (ifD (andT (tstD (op2 eqA (tA (op2 ixG (slotA 5) (tA (cD (.int 0))))) (tA (cD (.str "told"))))) (tstD (op2 notA (tA (viewD (callD (d_is_change A) (consA (slotA 2) (consA (tA (op2 ixG (slotA 5) (tA (cD (.int 1))))) (consA (slotA 4) (nilA))))))) (tA (cD (.bl true)))))) (retF (valO (cD (.bl false)))) (nxD))
def b_law_q3_7 (A : Ads) : En → Out Fl := seqD (ifD (tstD (op2 notA (tA (viewD (callD (d_is_change A) (consA (slotA 2) (consA (slotA 6) (consA (slotA 7) (nilA))))))) (tA (cD (.bl true))))) (retF (valO (cD (.bl false)))) (nxD))
  (b_law_q3_8 A)
def b_law_q3_6 (A : Ads) : En → Out Fl := seqD (ifD (orT (notT (truE (tA (viewD (callD (d_law_same A) (consA (tA (viewD (callD (d_law_led A) (consA (slotA 2) (consA (slotA 7) (nilA)))))) (consA (tA (tupF (consA (tA (cD (.str "told"))) (consA (slotA 6) (nilA))))) (nilA)))))))) (notT (truE (tA (viewD (callD (d_law_same A) (consA (tA (viewD (callD (d_changed A) (consA (slotA 2) (consA (slotA 7) (nilA)))))) (consA (slotA 6) (nilA))))))))) (retF (valO (cD (.bl false)))) (nxD))
  (b_law_q3_7 A)
def b_law_q3_5 (A : Ads) : En → Out Fl := seqD (ifD (orT (notT (truE (tA (viewD (callD (d_law_is_row A) (consA (slotA 7) (nilA))))))) (orT (tstD (op2 gtI (tA (opN (on1 lenS) (consA (slotA 7) (nilA)))) (tA (op2 addG (tA (opN (on1 lenS) (consA (slotA 6) (nilA)))) (tA (cD (.int 11))))))) (andT (tstD (op2 eqA (slotA 2) (slotA 6))) (tstD (op2 gtI (tA (opN (on1 lenS) (consA (slotA 7) (nilA)))) (tA (cD (.int 11)))))))) (retF (valO (cD (.bl false)))) (nxD))
  (b_law_q3_6 A)
def b_law_q3_4 (A : Ads) : En → Out Fl := seqD (setD 7 (viewD (callD (d_change A) (consA (slotA 2) (consA (slotA 6) (nilA))))))
  (b_law_q3_5 A)
def b_law_q3_3 (A : Ads) : En → Out Fl := seqD (setD 6 (viewD (callD (d_law_near_row A) (consA (slotA 1) (consA (slotA 2) (nilA))))))
  (b_law_q3_4 A)
def b_law_q3_2 (A : Ads) : En → Out Fl := seqD (ifD (notT (truE (tA (viewD (callD (d_law_same A) (consA (tA (viewD (callD (d_law_told A) (consA (slotA 2) (consA (slotA 4) (nilA)))))) (consA (slotA 5) (nilA)))))))) (retF (valO (cD (.bl false)))) (nxD))
  (b_law_q3_3 A)
def b_law_q3_1 (A : Ads) : En → Out Fl := seqD (setD 5 (viewD (callD (d_law_led A) (consA (slotA 2) (consA (slotA 4) (nilA))))))
  (b_law_q3_2 A)
def b_law_l0 (A : Ads) : En → Out Fl := seqD (setD 4 (viewD (callD (d_law_parts A) (consA (slotA 1) (consA (slotA 2) (nilA))))))
  (b_law_q3_1 A)
def b_law_r5 (A : Ads) : En → Out Fl := seqD (ifD (orT (notT (truE (tA (viewD (callD (d_law_refused A) (consA (slotA 8) (consA (slotA 2) (nilA)))))))) (orT (notT (truE (tA (viewD (callD (d_law_refused A) (consA (slotA 2) (consA (slotA 8) (nilA)))))))) (tstD (op2 notA (tA (viewD (callD (d_is_change A) (consA (slotA 2) (consA (slotA 2) (consA (slotA 8) (nilA))))))) (tA (cD (.bl false))))))) (retF (valO (cD (.bl false)))) (nxD))
  (retF (valO (andV (op2 eqA (tA (viewD (callD (d_law_told A) (consA (slotA 8) (consA (tA (tupF (nilA))) (nilA)))))) (tA (tupF (consA (tA (cD (.str "NoRow"))) (nilA))))) (op2 eqA (tA (viewD (callD (d_law_told A) (consA (slotA 2) (consA (slotA 8) (nilA)))))) (tA (tupF (consA (tA (cD (.str "NoRow"))) (nilA))))))))
def b_law_r4 (A : Ads) : En → Out Fl := seqD (setD 8 (viewD (callD (d_law_pick A) (consA (slotA 1) (consA (tA (viewD (lstF (consA (tA (viewD (opNF (on1 lstS) (consA (slotA 2) (nilA))))) (consA (tA (tupF (consA (tA (cD (.int 256))) (nilA)))) (consA (tA (tupF (consA (tA (cD (.bl true))) (nilA)))) (consA (tA (cD .non)) (consA (tA (cD (.str "a"))) (consA (tA (viewD ((fun en => .ok (.fl (.dK [] [])) en)))) (nilA)))))))))) (nilA))))))
  (b_law_r5 A)
def b_law_r3 (A : Ads) : En → Out Fl := seqD (forS (asgN 3) (rngD rng1 (consA (tA (cD (.int 3))) (nilA))) (b_law_l0 A))
  (b_law_r4 A)
def b_law_r2 (A : Ads) : En → Out Fl := seqD (ifD (tstD (op2 eqA (tA (viewD (callD (d_law_take A) (consA (slotA 1) (consA (tA (cD (.int 10))) (nilA)))))) (tA (cD (.int 0))))) (setD 2 (op2 repA (tA (op2 addG (slotA 2) (tA (tupF (consA (tA (cD (.int 1))) (consA (tA (cD (.int 2))) (consA (tA (cD (.int 3))) (nilA)))))))) (tA (cD (.int 11))))) (nxD))
  (b_law_r3 A)
def b_law_r1 (A : Ads) : En → Out Fl := seqD (setD 2 (viewD (callD (d_law_bytes A) (consA (slotA 1) (consA (tA (cD (.int 60))) (nilA))))))
  (b_law_r2 A)
def b_law (A : Ads) : En → Out Fl := seqD (setO 1 (callD (d_law_hand A) (consA (slotA 0) (nilA))))
  (b_law_r1 A)
def d_law (A : Ads) : Fn := fnD (b_law A) 9 [true]
theorem ok_law {f : Addr} {fd : FuncData} (T : Txt K mg A) (F : L2.Fun K "law" "law" s_law f fd) (K_law_hand : Kn P w K mg base "_law_hand" 1 ["script"] (d_law_hand A)) (K_law_bytes : Kn P w K mg base "_law_bytes" 3 ["hand", "most"] (d_law_bytes A)) (K_law_take : Kn P w K mg base "_law_take" 1 ["hand", "many"] (d_law_take A)) (K_law_parts : Kn P w K mg base "_law_parts" 4 ["hand", "one"] (d_law_parts A)) (K_law_led : Kn P w K mg base "_law_led" 2 ["one", "change_row"] (d_law_led A)) (K_law_told : Kn P w K mg base "_law_told" 6 ["one", "thing"] (d_law_told A)) (K_law_same : Kn P w K mg base "_law_same" 10 ["actual", "due"] (d_law_same A)) (K_law_near_row : Kn P w K mg base "_law_near_row" 4 ["hand", "one"] (d_law_near_row A)) (K_change : Kn P w K mg base "change" 6 ["one", "other"] (d_change A)) (K_law_is_row : Kn P w K mg base "_law_is_row" 3 ["thing"] (d_law_is_row A)) (K_changed : Kn P w K mg base "changed" 5 ["one", "parts"] (d_changed A)) (K_is_change : Kn P w K mg base "is_change" 6 ["one", "other", "thing"] (d_is_change A)) (K_law_pick : Kn P w K mg base "_law_pick" 2 ["hand", "things"] (d_law_pick A)) (K_law_refused : Kn P w K mg base "_law_refused" 7 ["one", "other"] (d_law_refused A)) : FnOk P w K mg base (L2.CX P w) 11 f fd ["script"] (SpD K (d_law A)) :=
  fn_ok F sc_law rfl fun cdv AA outer s H E hr => dss_cons (ds_setO (by decide) (by rfl) (df_kn K_law_hand (fun _ => ⟨rfl, rfl, rfl, rfl, rfl⟩) (fun _ => hr.mono (by decide)) (fun _ => by rfl) (fun _ => takes_of rfl rfl rfl rfl) (das_cons (da_s (fun _ => pv 0)) (das_nil))) (fun _ _ p => ps_set (i := 1) sc_law.nd rfl (.inl rfl) p))
  (dss_cons (ds_set (by decide) (by rfl) (de_of_df (df_kn K_law_bytes (fun _ => ⟨rfl, rfl, rfl, rfl, rfl⟩) (fun _ => hr.mono (by decide)) (fun _ => by rfl) (fun _ => takes_of rfl rfl rfl rfl) (das_cons (da_s (fun _ => pv 1)) (das_cons (da_t (de_int)) (das_nil))))) (fun _ _ p => ps_set (i := 2) sc_law.nd rfl (.inl rfl) p))
  (dss_cons (ds_if (dt_op2 ok_eqA (da_t (de_of_df (df_kn K_law_take (fun _ => ⟨rfl, rfl, rfl, rfl, rfl⟩) (fun _ => hr.mono (by decide)) (fun _ => by rfl) (fun _ => takes_of rfl rfl rfl rfl) (das_cons (da_s (fun _ => pv 1)) (das_cons (da_t (de_int)) (das_nil)))))) (da_t (de_int)) (fun _ _ _ p q => pt_cmpR (op_eqAny hr) p q (nomark _))) (dss_one (ds_set (by decide) (by rfl) (de_op2 ok_repA (da_t (de_op2 ok_addG (da_s (fun _ => pv 2)) (da_t (de_tup (das_cons (da_t (de_int)) (das_cons (da_t (de_int)) (das_cons (da_t (de_int)) (das_nil)))))) (fun _ _ _ p q => pe_op op_addAny p q))) (da_t (de_int)) (fun _ _ _ p q => pe_op op_repA p q)) (fun _ _ p => ps_set (i := 2) sc_law.nd rfl (.inl rfl) p))) (dss_nil))
  (dss_cons (ds_for (fun _ => passes_of rfl) (fun _ => rfl) (di_range1 (fun _ => by rfl) (fun _ => T.z_range) (das_cons (da_t (de_int)) (das_nil))) (dg_name (by decide) (by rfl) (fun _ => pg_name sc_law.nd rfl (.inl rfl))) (dss_cons (ds_set (by decide) (by rfl) (de_of_df (df_kn K_law_parts (fun _ => ⟨rfl, rfl, rfl, rfl, rfl⟩) (fun _ => hr.mono (by decide)) (fun _ => by rfl) (fun _ => takes_of rfl rfl rfl rfl) (das_cons (da_s (fun _ => pv 1)) (das_cons (da_s (fun _ => pv 2)) (das_nil))))) (fun _ _ p => ps_set (i := 4) sc_law.nd rfl (.inl rfl) p))
  (dss_cons (ds_set (by decide) (by rfl) (de_of_df (df_kn K_law_led (fun _ => ⟨rfl, rfl, rfl, rfl, rfl⟩) (fun _ => hr.mono (by decide)) (fun _ => by rfl) (fun _ => takes_of rfl rfl rfl rfl) (das_cons (da_s (fun _ => pv 2)) (das_cons (da_s (fun _ => pv 4)) (das_nil))))) (fun _ _ p => ps_set (i := 5) sc_law.nd rfl (.inl rfl) p))
  (dss_cons (ds_if (dt_not (dt_truth (fun _ => rfl) (da_t (de_of_df (df_kn K_law_same (fun _ => ⟨rfl, rfl, rfl, rfl, rfl⟩) (fun _ => hr.mono (by decide)) (fun _ => by rfl) (fun _ => takes_of rfl rfl rfl rfl) (das_cons (da_t (de_of_df (df_kn K_law_told (fun _ => ⟨rfl, rfl, rfl, rfl, rfl⟩) (fun _ => hr.mono (by decide)) (fun _ => by rfl) (fun _ => takes_of rfl rfl rfl rfl) (das_cons (da_s (fun _ => pv 2)) (das_cons (da_s (fun _ => pv 4)) (das_nil)))))) (das_cons (da_s (fun _ => pv 5)) (das_nil)))))))) (dss_one (ds_ret (df_of_de (de_bl)))) (dss_nil))
  (dss_cons (ds_set (by decide) (by rfl) (de_of_df (df_kn K_law_near_row (fun _ => ⟨rfl, rfl, rfl, rfl, rfl⟩) (fun _ => hr.mono (by decide)) (fun _ => by rfl) (fun _ => takes_of rfl rfl rfl rfl) (das_cons (da_s (fun _ => pv 1)) (das_cons (da_s (fun _ => pv 2)) (das_nil))))) (fun _ _ p => ps_set (i := 6) sc_law.nd rfl (.inl rfl) p))
  (dss_cons (ds_set (by decide) (by rfl) (de_of_df (df_kn K_change (fun _ => ⟨rfl, rfl, rfl, rfl, rfl⟩) (fun _ => hr.mono (by decide)) (fun _ => by rfl) (fun _ => takes_of rfl rfl rfl rfl) (das_cons (da_s (fun _ => pv 2)) (das_cons (da_s (fun _ => pv 6)) (das_nil))))) (fun _ _ p => ps_set (i := 7) sc_law.nd rfl (.inl rfl) p))
  (dss_cons (ds_if (dt_w (dw_or (dt_not (dt_truth (fun _ => rfl) (da_t (de_of_df (df_kn K_law_is_row (fun _ => ⟨rfl, rfl, rfl, rfl, rfl⟩) (fun _ => hr.mono (by decide)) (fun _ => by rfl) (fun _ => takes_of rfl rfl rfl rfl) (das_cons (da_s (fun _ => pv 7)) (das_nil))))))) (dw_or (dt_op2 ok_rI0b (da_t (de_opN ok_len (das_cons (da_s (fun _ => pv 7)) (das_nil)) (fun _ _ p => pe_callB call_len (by rfl) T.z_len (by decide +kernel) p))) (da_t (de_op2 ok_addG (da_t (de_opN ok_len (das_cons (da_s (fun _ => pv 6)) (das_nil)) (fun _ _ p => pe_callB call_len (by rfl) T.z_len (by decide +kernel) p))) (da_t (de_int)) (fun _ _ _ p q => pe_op op_addAny p q))) (fun _ _ _ p q => pt_cmpR op_gt p q (nomark _))) (dw_or1 (dt_w (dw_and (dt_op2 ok_eqA (da_s (fun _ => pv 2)) (da_s (fun _ => pv 6)) (fun _ _ _ p q => pt_cmpR (op_eqAny hr) p q (nomark _))) (dw_and1 (dt_op2 ok_rI0b (da_t (de_opN ok_len (das_cons (da_s (fun _ => pv 7)) (das_nil)) (fun _ _ p => pe_callB call_len (by rfl) T.z_len (by decide +kernel) p))) (da_t (de_int)) (fun _ _ _ p q => pt_cmpR op_gt p q (nomark _)))))))))) (dss_one (ds_ret (df_of_de (de_bl)))) (dss_nil))
  (dss_cons (ds_if (dt_w (dw_or (dt_not (dt_truth (fun _ => rfl) (da_t (de_of_df (df_kn K_law_same (fun _ => ⟨rfl, rfl, rfl, rfl, rfl⟩) (fun _ => hr.mono (by decide)) (fun _ => by rfl) (fun _ => takes_of rfl rfl rfl rfl) (das_cons (da_t (de_of_df (df_kn K_law_led (fun _ => ⟨rfl, rfl, rfl, rfl, rfl⟩) (fun _ => hr.mono (by decide)) (fun _ => by rfl) (fun _ => takes_of rfl rfl rfl rfl) (das_cons (da_s (fun _ => pv 2)) (das_cons (da_s (fun _ => pv 7)) (das_nil)))))) (das_cons (da_t (de_tup (das_cons (da_t (de_str)) (das_cons (da_s (fun _ => pv 6)) (das_nil))))) (das_nil)))))))) (dw_or1 (dt_not (dt_truth (fun _ => rfl) (da_t (de_of_df (df_kn K_law_same (fun _ => ⟨rfl, rfl, rfl, rfl, rfl⟩) (fun _ => hr.mono (by decide)) (fun _ => by rfl) (fun _ => takes_of rfl rfl rfl rfl) (das_cons (da_t (de_of_df (df_kn K_changed (fun _ => ⟨rfl, rfl, rfl, rfl, rfl⟩) (fun _ => hr.mono (by decide)) (fun _ => by rfl) (fun _ => takes_of rfl rfl rfl rfl) (das_cons (da_s (fun _ => pv 2)) (das_cons (da_s (fun _ => pv 7)) (das_nil)))))) (das_cons (da_s (fun _ => pv 6)) (das_nil))))))))))) (dss_one (ds_ret (df_of_de (de_bl)))) (dss_nil))
  (dss_cons (ds_if (dt_op2 ok_notA (da_t (de_of_df (df_kn K_is_change (fun _ => ⟨rfl, rfl, rfl, rfl, rfl⟩) (fun _ => hr.mono (by decide)) (fun _ => by rfl) (fun _ => takes_of rfl rfl rfl rfl) (das_cons (da_s (fun _ => pv 2)) (das_cons (da_s (fun _ => pv 6)) (das_cons (da_s (fun _ => pv 7)) (das_nil))))))) (da_t (de_bl)) (fun _ _ _ p q => pt_cmpR op_notAny p q (nomark _))) (dss_one (ds_ret (df_of_de (de_bl)))) (dss_nil))
  (dss_cons (ds_if (dt_not (dt_truth (fun _ => rfl) (da_t (de_of_df (df_kn K_law_same (fun _ => ⟨rfl, rfl, rfl, rfl, rfl⟩) (fun _ => hr.mono (by decide)) (fun _ => by rfl) (fun _ => takes_of rfl rfl rfl rfl) (das_cons (da_t (de_of_df (df_kn K_is_change (fun _ => ⟨rfl, rfl, rfl, rfl, rfl⟩) (fun _ => hr.mono (by decide)) (fun _ => by rfl) (fun _ => takes_of rfl rfl rfl rfl) (das_cons (da_s (fun _ => pv 2)) (das_cons (da_s (fun _ => pv 6)) (das_cons (da_s (fun _ => pv 4)) (das_nil))))))) (das_cons (da_t (de_op2 ok_eqA (da_s (fun _ => pv 5)) (da_t (de_tup (das_cons (da_t (de_str)) (das_cons (da_s (fun _ => pv 6)) (das_nil))))) (fun _ _ _ p q => pe_cmpR (op_eqAny hr) p q (nomark _)))) (das_nil)))))))) (dss_one (ds_ret (df_of_de (de_bl)))) (dss_nil))
  (dss_one (ds_if (dt_w (dw_and (dt_op2 ok_eqA (da_t (de_op2 ok_ix (da_s (fun _ => pv 5)) (da_t (de_int)) (fun _ _ _ p q => pe_ix ix_seq p q (fun _ _ => rfl)))) (da_t (de_str)) (fun _ _ _ p q => pt_cmpR (op_eqAny hr) p q (nomark _))) (dw_and1 (dt_op2 ok_notA (da_t (de_of_df (df_kn K_is_change (fun _ => ⟨rfl, rfl, rfl, rfl, rfl⟩) (fun _ => hr.mono (by decide)) (fun _ => by rfl) (fun _ => takes_of rfl rfl rfl rfl) (das_cons (da_s (fun _ => pv 2)) (das_cons (da_t (de_op2 ok_ix (da_s (fun _ => pv 5)) (da_t (de_int)) (fun _ _ _ p q => pe_ix ix_seq p q (fun _ _ => rfl)))) (das_cons (da_s (fun _ => pv 4)) (das_nil))))))) (da_t (de_bl)) (fun _ _ _ p q => pt_cmpR op_notAny p q (nomark _)))))) (dss_one (ds_ret (df_of_de (de_bl)))) (dss_nil)))))))))))))
  (dss_cons (ds_set (by decide) (by rfl) (de_of_df (df_kn K_law_pick (fun _ => ⟨rfl, rfl, rfl, rfl, rfl⟩) (fun _ => hr.mono (by decide)) (fun _ => by rfl) (fun _ => takes_of rfl rfl rfl rfl) (das_cons (da_s (fun _ => pv 1)) (das_cons (da_t (de_of_df (df_lst (das_cons (da_t (de_of_df (df_opN ok_list (das_cons (da_s (fun _ => pv 2)) (das_nil)) (fun _ _ p => pe_callTy call_list_of (by rfl) T.z_list (by decide +kernel) p)))) (das_cons (da_t (de_tup (das_cons (da_t (de_int)) (das_nil)))) (das_cons (da_t (de_tup (das_cons (da_t (de_bl)) (das_nil)))) (das_cons (da_t (de_non)) (das_cons (da_t (de_str)) (das_cons (da_t (de_of_df (df_dnewK))) (das_nil)))))))))) (das_nil))))) (fun _ _ p => ps_set (i := 8) sc_law.nd rfl (.inl rfl) p))
  (dss_cons (ds_if (dt_w (dw_or (dt_not (dt_truth (fun _ => rfl) (da_t (de_of_df (df_kn K_law_refused (fun _ => ⟨rfl, rfl, rfl, rfl, rfl⟩) (fun _ => hr.mono (by decide)) (fun _ => by rfl) (fun _ => takes_of rfl rfl rfl rfl) (das_cons (da_s (fun _ => pv 8)) (das_cons (da_s (fun _ => pv 2)) (das_nil)))))))) (dw_or (dt_not (dt_truth (fun _ => rfl) (da_t (de_of_df (df_kn K_law_refused (fun _ => ⟨rfl, rfl, rfl, rfl, rfl⟩) (fun _ => hr.mono (by decide)) (fun _ => by rfl) (fun _ => takes_of rfl rfl rfl rfl) (das_cons (da_s (fun _ => pv 2)) (das_cons (da_s (fun _ => pv 8)) (das_nil)))))))) (dw_or1 (dt_op2 ok_notA (da_t (de_of_df (df_kn K_is_change (fun _ => ⟨rfl, rfl, rfl, rfl, rfl⟩) (fun _ => hr.mono (by decide)) (fun _ => by rfl) (fun _ => takes_of rfl rfl rfl rfl) (das_cons (da_s (fun _ => pv 2)) (das_cons (da_s (fun _ => pv 2)) (das_cons (da_s (fun _ => pv 8)) (das_nil))))))) (da_t (de_bl)) (fun _ _ _ p q => pt_cmpR op_notAny p q (nomark _))))))) (dss_one (ds_ret (df_of_de (de_bl)))) (dss_nil))
  (dss_one (ds_ret (df_of_de (de_and (de_op2 ok_eqA (da_t (de_of_df (df_kn K_law_told (fun _ => ⟨rfl, rfl, rfl, rfl, rfl⟩) (fun _ => hr.mono (by decide)) (fun _ => by rfl) (fun _ => takes_of rfl rfl rfl rfl) (das_cons (da_s (fun _ => pv 8)) (das_cons (da_t (de_tup (das_nil))) (das_nil)))))) (da_t (de_tup (das_cons (da_t (de_str)) (das_nil)))) (fun _ _ _ p q => pe_cmpR (op_eqAny hr) p q (nomark _))) (de_one (de_op2 ok_eqA (da_t (de_of_df (df_kn K_law_told (fun _ => ⟨rfl, rfl, rfl, rfl, rfl⟩) (fun _ => hr.mono (by decide)) (fun _ => by rfl) (fun _ => takes_of rfl rfl rfl rfl) (das_cons (da_s (fun _ => pv 2)) (das_cons (da_s (fun _ => pv 8)) (das_nil)))))) (da_t (de_tup (das_cons (da_t (de_str)) (das_nil)))) (fun _ _ _ p q => pe_cmpR (op_eqAny hr) p q (nomark _)))))))))))))
end
end Lw
namespace Lw
open PySem PySem.Spec PyProof.Rows L2 Dn
noncomputable section
def handD (ns : List Int) (p b s c : Int) : D := .lst [.lst (ns.map .int), .int p, .int b, .int s, .int c]
structure Hand (ns : List Int) (p b s : Int) : Prop where
  p0 : 0 ≤ p
  p1 : p ≤ ns.length
  b0 : 0 ≤ b
  s0 : 0 ≤ s
  s1 : s < 2147483647
theorem take_ok {A : Ads} {ns : List Int} {p b s c m : Int} (h : Hand ns p b s) (m0 : 0 < m) (m1 : m < 18446744073709551616) :
    ∃ r p' b' s', 0 ≤ r ∧ r < m ∧ Hand ns p' b' s' ∧ d_law_take A [.fl (handD ns p b s c), .val (.int m)] = .ok (.val (.int r)) [some (.fl (handD ns p' b' s' (c + 1))), some (.val (.int m))] := by
  unfold d_law_take
  rw [x_fn rfl]
  unfold b_law_take handD
  by_cases hb : 0 < b
  · refine ⟨b % m, p, b / m, s, Int.emod_nonneg _ (by omega), Int.emod_lt_of_pos _ m0, ⟨h.p0, h.p1, Int.ediv_nonneg h.b0 (by omega), h.s0, h.s1⟩, ?_⟩
    have e1 : ¬ b = 0 := by omega
    simp! [e1, hb, m0, m1]
  · have hb0 : b = 0 := by have := h.b0; omega
    subst hb0
    by_cases hp : p < ns.length
    · obtain ⟨x, hx⟩ : ∃ x, ns[p.toNat]? = some x := ⟨_, List.getElem?_eq_getElem (by have := h.p0; omega)⟩
      have hx' : (ns.map D.int)[p.toNat]? = some (.int x) := by rw [List.getElem?_map, hx]; rfl
      by_cases hc : (1000000000000000000 : Int) ≤ x
      · have e0 : (0 : Int) < x := by omega
        refine ⟨x % m, p + 1, x / m, s, Int.emod_nonneg _ (by omega), Int.emod_lt_of_pos _ m0, ⟨by have := h.p0; omega, by omega, Int.ediv_nonneg (by omega) (by omega), h.s0, h.s1⟩, ?_⟩
        simp! [hp, h.p0, hx', hc, e0, m0, m1, List.length_map]
      · have f : ∀ y : Int, 0 ≤ y % 2147483647 ∧ y % 2147483647 < 2147483647 := fun y => ⟨Int.emod_nonneg _ (by omega), Int.emod_lt_of_pos _ (by omega)⟩
        have s0 := h.s0
        have s1 := h.s1
        generalize e3 : (s * 48271 + x % 2147483647 + 1) % 2147483647 = s3
        have h3 : 0 ≤ s3 ∧ s3 < 2147483647 := e3 ▸ f _
        generalize e4 : (s3 * 69621 + 7919 * (c + 1)) % 2147483647 = s4
        have h4 : 0 ≤ s4 ∧ s4 < 2147483647 := e4 ▸ f _
        generalize e5 : s4 * (s4 / 1009 + 69621) % 2147483647 = s5
        have h5 : 0 ≤ s5 ∧ s5 < 2147483647 := e5 ▸ f _
        refine ⟨(s5 * (s5 / 2003 + 40692) % 2147483399 / 16) % m, p + 1, 0, s4, Int.emod_nonneg _ (by omega), Int.emod_lt_of_pos _ m0, ⟨by have := h.p0; omega, by omega, by omega, h4.1, h4.2⟩, ?_⟩
        have b1 : -1000000000000 < s := by omega
        have b2 : s < 1000000000000 := by omega
        have b3 : -1000000000000 < s3 := by omega
        have b4 : s3 < 1000000000000 := by omega
        have b5 : -1000000000000 < s4 := by omega
        have b6 : s4 < 1000000000000 := by omega
        have b7 : -1000000000000 < s5 := by omega
        have b8 : s5 < 1000000000000 := by omega
        simp! [hp, h.p0, hx', hc, m0, m1, List.length_map, e3, e4, e5, b1, b2, b3, b4, b5, b6, b7, b8]
    · have f : ∀ y : Int, 0 ≤ y % 2147483647 ∧ y % 2147483647 < 2147483647 := fun y => ⟨Int.emod_nonneg _ (by omega), Int.emod_lt_of_pos _ (by omega)⟩
      have s0 := h.s0
      have s1 := h.s1
      generalize e4 : (s * 69621 + 7919 * (c + 1)) % 2147483647 = s4
      have h4 : 0 ≤ s4 ∧ s4 < 2147483647 := e4 ▸ f _
      generalize e5 : s4 * (s4 / 1009 + 69621) % 2147483647 = s5
      have h5 : 0 ≤ s5 ∧ s5 < 2147483647 := e5 ▸ f _
      refine ⟨(s5 * (s5 / 2003 + 40692) % 2147483399 / 16) % m, p, 0, s4, Int.emod_nonneg _ (by omega), Int.emod_lt_of_pos _ m0, ⟨h.p0, h.p1, by omega, h4.1, h4.2⟩, ?_⟩
      have b1 : -1000000000000 < s := by omega
      have b2 : s < 1000000000000 := by omega
      have b5 : -1000000000000 < s4 := by omega
      have b6 : s4 < 1000000000000 := by omega
      have b7 : -1000000000000 < s5 := by omega
      have b8 : s5 < 1000000000000 := by omega
      simp! [hp, h.p0, m0, m1, List.length_map, e4, e5, b1, b2, b5, b6, b7, b8]
def IsHand (d : D) : Prop := ∃ ns p b s c, Hand ns p b s ∧ d = handD ns p b s c
theorem take_is {A : Ads} {d : D} {m : Int} (h : IsHand d) (m0 : 0 < m) (m1 : m < 18446744073709551616) : ∃ r d', 0 ≤ r ∧ r < m ∧ IsHand d' ∧ d_law_take A [.fl d, .val (.int m)] = .ok (.val (.int r)) [some (.fl d'), some (.val (.int m))] := by
  obtain ⟨ns, p, b, s, c, hh, rfl⟩ := h
  obtain ⟨r, p', b', s', r0, r1, h', e⟩ := take_ok (A := A) (c := c) hh m0 m1
  exact ⟨r, _, r0, r1, ⟨ns, p', b', s', c + 1, h', rfl⟩, e⟩
theorem hand_ok {A : Ads} {ns : List Int} : ∃ d, IsHand d ∧ d_law_hand A [.val (.sc ns)] = .ok (.fl d) [some (.val (.sc ns))] := by
  refine ⟨handD ns 0 0 1 0, ⟨ns, 0, 0, 1, 0, ⟨by omega, by omega, by omega, by omega, by omega⟩, rfl⟩, ?_⟩
  unfold d_law_hand
  rw [x_fn rfl]
  unfold b_law_hand handD
  simp! [Dn.bind_ok]
theorem pick_ok {A : Ads} {d : D} {xs : List D} (h : IsHand d) (hx : xs ≠ []) (hl : xs.length < 1000000) : ∃ x d', x ∈ xs ∧ IsHand d' ∧ d_law_pick A [.fl d, .val (.lst xs)] = .ok (.val x) [some (.fl d'), some (.val (.lst xs))] := by
  have l0 : 0 < xs.length := List.length_pos_iff.mpr hx
  obtain ⟨r, d', r0, r1, h', e⟩ := take_is (A := A) (m := (xs.length : Int)) h (by omega) (by omega)
  have hi : r.toNat < xs.length := by omega
  refine ⟨xs[r.toNat], d', List.getElem_mem hi, h', ?_⟩
  have e2 : xs[r.toNat]? = some xs[r.toNat] := List.getElem?_eq_getElem hi
  unfold d_law_pick
  rw [x_fn rfl]
  unfold b_law_pick
  simp! [e, r0, e2]
end
end Lw
namespace Lw
open PySem PySem.Spec PyProof.Rows L2 Dn
noncomputable section
theorem is_integer_ok {A : Ads} {d : D} (h : pl d = true) : d_law_is_integer A [.val d] = .ok (.val (.bl (isI d))) [some (.val d)] := by
  unfold d_law_is_integer
  rw [x_fn rfl]
  unfold b_law_is_integer
  simp! [isi_int h, isi_bool h]
  cases d <;> rfl
def within (d : D) (a b : Int) : Bool := match d with
  | .int i => decide (a ≤ i ∧ i ≤ b)
  | _ => false
theorem is_within_ok {A : Ads} {d : D} {a b : Int} (h : pl d = true) : d_law_is_within A [.val d, .val (.int a), .val (.int b)] = .ok (.val (.bl (within d a b))) [some (.val d), some (.val (.int a)), some (.val (.int b))] := by
  unfold d_law_is_within
  rw [x_fn rfl]
  unfold b_law_is_within
  cases d with
  | int i =>
    simp! [is_integer_ok (A := A) (d := .int i) rfl, isI]
    by_cases h1 : a ≤ i <;> by_cases h2 : i ≤ b <;> simp [within, h1, h2] <;> simp! [h1, h2]
  | _ => first | (cases h; done) | (simp! [is_integer_ok h, isI]; rfl)
end
end Lw
namespace Lw
open PySem PySem.Spec PyProof.Rows L2 Dn
noncomputable section
def rowD (bs : List Int) : D := .tup (bs.map .int)
def Byte (b : Int) : Prop := 0 ≤ b ∧ b < 256
theorem bytes_ok {A : Ads} {d : D} {m : Int} (h : IsHand d) (m0 : 0 ≤ m) (m1 : m < 1000) : ∃ bs d', (∀ b ∈ bs, Byte b) ∧ (bs.length : Int) ≤ m ∧ IsHand d' ∧ d_law_bytes A [.fl d, .val (.int m)] = .ok (.val (rowD bs)) [some (.fl d'), some (.val (.int m))] := by
  obtain ⟨r, d1, r0, r1, h1, e1⟩ := take_is (A := A) (m := m + 1) h (by omega) (by omega)
  unfold d_law_bytes
  rw [x_fn rfl]
  unfold b_law_bytes
  simp! [e1]
  rw [x_rng1 (by omega) r0]
  simp only [bind_ok]
  have L := forD_inv (asg := asgN 3) (g := b_law_bytes_l0 A)
    (intsD 0 r) (fun i en => ∃ bs d' x, (∀ b ∈ bs, Byte b) ∧ bs.length = i ∧ IsHand d' ∧ en = [some (.fl d'), some (.val (.int m)), some (.fl (.lst (bs.map .int))), x])
    [some (.fl d1), some (.val (.int m)), some (.fl (.lst [])), none] ⟨[], d1, none, by simp, rfl, h1, rfl⟩ (by
      rintro i en k hk ⟨bs, d', x, hb, hl, hh, rfl⟩
      have kl := ints_get hk
      obtain ⟨r2, d2, r20, r21, h2, e2⟩ := take_is (A := A) (m := 256) hh (by omega) (by omega)
      obtain ⟨r3, d3, r30, r31, h3, e3⟩ := take_is (A := A) (m := 256) h2 (by omega) (by omega)
      obtain ⟨y, d4, hy, h4, e4⟩ := pick_ok (A := A) (xs := [.int 0, .int 1, .int 2, .int 3, .int 127, .int 128, .int 129, .int 255, .int r2, .int r3]) h3 (by simp) (by simp)
      have hz : ∃ z, y = .int z ∧ Byte z := by
        simp only [List.mem_cons, List.not_mem_nil, or_false] at hy
        unfold Byte
        rcases hy with rfl | rfl | rfl | rfl | rfl | rfl | rfl | rfl | rfl | rfl <;> refine ⟨_, rfl, ?_⟩ <;> omega
      obtain ⟨z, rfl, bz⟩ := hz
      refine ⟨_, _, rfl, .inl ?_, ⟨bs ++ [z], d4, some (.val k), ?_, ?_, h4, rfl⟩⟩
      · have l2 : bs.length < 16777216 := by have := kl.2; omega
        unfold b_law_bytes_l0; simp! [e2, e3, e4, List.length_map, l2, List.map_append]
      · intro b hb'
        rcases List.mem_append.mp hb' with q | q
        · exact hb b q
        · rw [List.mem_singleton] at q; subst q; exact bz
      · simp [hl])
  obtain ⟨en', e5, bs, d', x, hb, hl, hh, rfl⟩ := L
  have ll : (intsD 0 r).length = r.toNat := by unfold intsD; simp
  refine ⟨bs, d', hb, by rw [hl, ll]; omega, hh, ?_⟩
  unfold rowD
  rw [e5]
  simp! [Dn.bind_ok]
end
end Lw
namespace Lw
open PySem PySem.Spec PyProof.Rows L2 Dn
noncomputable section
def isByte (d : D) : Bool := within d 0 255
def isRow (d : D) : Bool := match d with
  | .tup ds => decide (ds.length ≤ 300000) && ds.all isByte
  | _ => false
theorem is_row_ok {A : Ads} {d : D} (h : pl d = true) (hs : ∀ ds, d = .tup ds → ∀ x ∈ ds, pl x = true) : d_is_row A [.val d] = .ok (.val (.bl (isRow d))) [some (.val d)] := by
  unfold d_is_row
  rw [x_fn rfl]
  unfold b_is_row
  cases d with
  | tup ds =>
    by_cases hl : ds.length ≤ 300000
    · have hl2 : ¬ (300000 : Int) < ds.length := by omega
      simp! [hl2]
      obtain ⟨en', e, w⟩ := comp_all (asg := asgN 1) (f := b_is_row_e0 A) (vs := [1]) (E0 := [some (.val (.tup ds)), none]) (res := fun d => .bl (isByte d)) ds [some (.val (.tup ds)), none] rfl (by
        intro x hx
        have px := hs ds rfl x hx
        refine ⟨_, [some (.val (.tup ds)), some (.val x)], rfl, by simp, ?_, rfl⟩
        unfold b_is_row_e0
        cases x with
        | int i =>
          by_cases h0 : 0 ≤ i <;> by_cases h1 : i < 256
          · have : isByte (.int i) = true := by simp [isByte, within]; omega
            rw [this]; simp! [h0, h1]
          · have : isByte (.int i) = false := by simp [isByte, within]; omega
            rw [this]; simp! [h0, h1]
          · have : isByte (.int i) = false := by simp [isByte, within]; omega
            rw [this]; simp! [h0, h1]
          · have : isByte (.int i) = false := by simp [isByte, within]; omega
            rw [this]; simp! [h0, h1]
        | _ => first | (cases px; done) | (simp! [Dn.bind_ok]; rfl))
      rw [e]
      simp! [all_bl, w]
      simp [isRow, hl]
    · have hl2 : (300000 : Int) < ds.length := by omega
      simp! [hl2]
      simp [isRow, hl]
  | _ => first | (cases h; done) | (simp! [Dn.bind_ok]; rfl)
theorem law_is_row_ok {A : Ads} {d : D} (h : pl d = true) (hs : ∀ ds, d = .tup ds → ∀ x ∈ ds, pl x = true) : d_law_is_row A [.val d] = .ok (.val (.bl (isRow d))) [some (.val d)] := by
  unfold d_law_is_row
  rw [x_fn rfl]
  unfold b_law_is_row
  cases d with
  | tup ds =>
    by_cases hl : ds.length ≤ 300000
    · have hl2 : ¬ (300000 : Int) < ds.length := by omega
      simp! [hl2]
      obtain ⟨en', e, w⟩ := compD_map (asg := asgN 1) (tt := b_law_is_row_t0 A) (f := b_law_is_row_e0 A) (vs := [1]) (E0 := [some (.val (.tup ds)), none]) (res := fun d => if isByte d then none else some d) ds [] [some (.val (.tup ds)), none] rfl (by
        intro x hx
        have px := hs ds rfl x hx
        refine ⟨fun hn => ⟨_, [some (.val (.tup ds)), some (.val x)], rfl, ?_, rfl⟩, fun y hy => ⟨_, [some (.val (.tup ds)), some (.val x)], [some (.val (.tup ds)), some (.val x)], rfl, ?_, ?_, rfl⟩⟩
        · have hb : within x 0 255 = true := by
            by_cases q : isByte x = true
            · exact q
            · rw [if_neg q] at hn; cases hn
          unfold b_law_is_row_t0; simp! [is_within_ok px, hb]
        · have hb : within x 0 255 = false := by
            by_cases q : isByte x = true
            · rw [if_pos q] at hy; cases hy
            · exact Bool.eq_false_iff.mpr q
          unfold b_law_is_row_t0; simp! [is_within_ok px, hb]
        · by_cases q : isByte x = true
          · rw [if_pos q] at hy; cases hy
          · rw [if_neg q] at hy; cases hy; unfold b_law_is_row_e0; simp! [Dn.bind_ok])
      rw [e]
      simp! [w]
      simp only [isRow, hl, decide_true, Bool.true_and]
      congr 3
      clear e hl hl2 hs w h
      induction ds with
      | nil => rfl
      | cons x ds ih =>
        by_cases q : isByte x = true
        · simp [q] at ih ⊢
          exact ih
        · simp [q]
          omega
    · have hl2 : (300000 : Int) < ds.length := by omega
      simp! [hl2]
      simp [isRow, hl]
  | _ => first | (cases h; done) | (simp! [Dn.bind_ok]; rfl)
end
end Lw
namespace Lw
open PySem PySem.Spec PyProof.Rows L2 Dn
noncomputable section
theorem same_self {A : Ads} : ∀ (n : Nat) (d : D), pd n d = true → d_law_same_ A n [.val d, .val d] = .ok (.val (.bl true)) [some (.val d), some (.val d)]
  | 0, d, h => by cases h
  | n + 1, d, h => by
    have ih := same_self (A := A) n
    have loop : ∀ (ds : List D) (s : D), ds.all (pd n) = true → ∃ x y, forD (asgT 2 (asgCons (asgN 2) (asgCons (asgN 3) asgNil))) (b_law_same_l0 A (d_law_same_ A n)) (zipD ds ds) [some (.val s), some (.val s), none, none] = .ok .nx [some (.val s), some (.val s), x, y] := fun ds s hd => by
      obtain ⟨en', e, x, y, rfl⟩ := forD_inv (asg := asgT 2 (asgCons (asgN 2) (asgCons (asgN 3) asgNil))) (g := b_law_same_l0 A (d_law_same_ A n)) (zipD ds ds) (fun _ en => ∃ x y, en = [some (.val s), some (.val s), x, y]) [some (.val s), some (.val s), none, none] ⟨_, _, rfl⟩ (by
        rintro i en d' hd' ⟨x, y, rfl⟩
        obtain ⟨z, z', e1, e2, rfl⟩ := zipD_get hd'
        rw [e1] at e2
        cases e2
        have hz : pd n z = true := List.all_eq_true.mp hd z (get_mem e1)
        refine ⟨[some (.val s), some (.val s), some (.val z), some (.val z)], [some (.val s), some (.val s), some (.val z), some (.val z)], by simp! [Dn.bind_ok], .inl ?_, ⟨_, _, rfl⟩⟩
        unfold b_law_same_l0; simp! [ih z hz])
      exact ⟨x, y, e⟩
    unfold d_law_same_
    rw [x_fn rfl]
    unfold b_law_same
    cases d with
    | non => simp! [Dn.bind_ok]
    | bl b => cases b <;> (simp! [Dn.bind_ok]; rfl)
    | int i => simp! [is_integer_ok (A := A) (d := .int i) rfl]
    | str x => simp! [Dn.bind_ok]
    | tup ds =>
      obtain ⟨x, y, e⟩ := loop ds (.tup ds) h
      simp! [g_neB, x_zipT, e]
    | lst ds =>
      obtain ⟨x, y, e⟩ := loop ds (.lst ds) h
      simp! [g_neB, x_zipL, e]
    | _ => cases h
theorem is_int_ok {A : Ads} {d : D} (h : pl d = true) : d_is_int A [.val d] = .ok (.val (.bl (isI d))) [some (.val d)] := by
  unfold d_is_int
  rw [x_fn rfl]
  unfold b_is_int
  simp! [isi_int h, isi_bool h]
  cases d <;> rfl
theorem is_number_ok {A : Ads} {d : D} (h : pl d = true) : d_is_number A [.val d] = .ok (.val (.bl (match d with | .int i => decide (0 ≤ i) | _ => false))) [some (.val d)] := by
  unfold d_is_number
  rw [x_fn rfl]
  unfold b_is_number
  cases d with
  | int i => simp! [is_int_ok (A := A) (d := .int i) rfl]
  | _ => first | (cases h; done) | simp! [is_int_ok (A := A) h]
theorem is_below_ok {A : Ads} {d : D} {m : Int} (h : pl d = true) : d_is_number_below A [.val d, .val (.int m)] = .ok (.val (.bl (within d 0 (m - 1)))) [some (.val d), some (.val (.int m))] := by
  unfold d_is_number_below
  rw [x_fn rfl]
  unfold b_is_number_below
  cases d with
  | int i =>
    have e : within (.int i) 0 (m - 1) = (decide (0 ≤ i) && decide (i < m)) := by
      unfold within
      simp only [← Bool.decide_and]
      congr 1
      rw [eq_iff_iff]
      omega
    rw [e]
    by_cases h0 : 0 ≤ i
    · simp! [is_number_ok (A := A) (d := .int i) rfl, h0]
    · simp! [is_number_ok (A := A) (d := .int i) rfl, h0]
  | _ => first | (cases h; done) | (simp! [is_number_ok (A := A) h]; rfl)
theorem row_of {r : D} (h : isRow r = true) : ∃ bs, r = rowD bs ∧ bs.length ≤ 300000 ∧ ∀ b ∈ bs, Byte b := by
  cases r with
  | tup ds =>
    simp only [isRow, Bool.and_eq_true, decide_eq_true_eq] at h
    obtain ⟨hl, hb⟩ := h
    refine ⟨ds.map fun d => match d with | .int i => i | _ => 0, ?_, by rw [List.length_map]; exact hl, ?_⟩
    · unfold rowD
      congr 1
      rw [List.map_map]
      conv => lhs; rw [← List.map_id ds]
      refine List.map_congr_left fun d hd => ?_
      have := List.all_eq_true.mp hb d hd
      cases d <;> first | rfl | cases this
    · intro b hb'
      obtain ⟨d, hd, rfl⟩ := List.mem_map.mp hb'
      have := List.all_eq_true.mp hb d hd
      cases d with
      | int i => simp only [isByte, within, decide_eq_true_eq] at this; show 0 ≤ i ∧ i < 256; omega
      | _ => cases this
  | _ => cases h
theorem row_is {bs : List Int} (hl : bs.length ≤ 300000) (h : ∀ b ∈ bs, Byte b) : isRow (rowD bs) = true := by
  simp only [isRow, rowD, List.length_map, hl, decide_true, Bool.true_and]
  refine List.all_eq_true.mpr fun d hd => ?_
  obtain ⟨b, hb, rfl⟩ := List.mem_map.mp hd
  have := h b hb
  unfold Byte at this
  simp only [isByte, within, decide_eq_true_eq]
  omega
theorem pl_row {bs : List Int} : ∀ ds, rowD bs = .tup ds → ∀ x ∈ ds, pl x = true := fun ds e x hx => by
  cases e
  obtain ⟨b, _, rfl⟩ := List.mem_map.mp hx
  rfl
end
end Lw
namespace Lw
open PySem PySem.Spec PyProof.Rows L2 Dn
noncomputable section
def figs : Nat → Int → List Int
  | 0, n => [n]
  | k + 1, n => if n < 128 then [n] else (128 + n % 128) :: figs k (n / 128)
theorem figs_up : ∀ (f : Nat) (n : Int), 0 ≤ n → n < 128 ^ (f + 1) → figs (f + 1) n = figs f n
  | 0, n, h0, h => by
    have h : n < 128 := by simpa using h
    unfold figs
    rw [if_pos h]
  | f + 1, n, h0, h => by
    by_cases q : n < 128
    · unfold figs; rw [if_pos q, if_pos q]
    · have h2 : n / 128 < 128 ^ (f + 1) := by
        rw [Int.pow_succ] at h
        generalize (128 : Int) ^ (f + 1) = p at h
        omega
      have e := figs_up f (n / 128) (by omega) h2
      rw [figs, if_neg q, e]
      conv => rhs; rw [figs, if_neg q]
theorem figs_bytes : ∀ (f : Nat) (n : Int), 0 ≤ n → n < 128 ^ (f + 1) → ∀ b ∈ figs f n, Byte b
  | 0, n, h0, h => fun b hb => by
    have h : n < 128 := by simpa using h
    simp only [figs, List.mem_singleton] at hb
    subst hb
    exact ⟨h0, by omega⟩
  | f + 1, n, h0, h => fun b hb => by
    unfold figs at hb
    by_cases q : n < 128
    · rw [if_pos q, List.mem_singleton] at hb
      subst hb
      exact ⟨h0, by omega⟩
    · rw [if_neg q] at hb
      have h2 : n / 128 < 128 ^ (f + 1) := by
        rw [Int.pow_succ] at h
        generalize (128 : Int) ^ (f + 1) = p at h
        omega
      rcases List.mem_cons.mp hb with rfl | hb
      · exact ⟨by omega, by omega⟩
      · exact figs_bytes f (n / 128) (by omega) h2 b hb
theorem figs_len : ∀ (f : Nat) (n : Int), (figs f n).length ≤ f + 1
  | 0, n => by simp [figs]
  | f + 1, n => by
    unfold figs
    split
    · simp
    · have := figs_len f (n / 128); simp; omega
theorem whole_loop {A : Ads} : ∀ (f : Nat) (n : Int) (acc : List Int), 0 ≤ n → n < 128 ^ (f + 1) → acc.length + f < 1000 →
    ∃ m acc', whileD (tstD (op2 geI (slotA 0) (tA (cD (.int 128))))) (b_whole_l0 A) (f + 1) [some (.val (.int n)), some (.fl (.lst (acc.map D.int)))] = .ok .nx [some (.val (.int m)), some (.fl (.lst (acc'.map D.int)))] ∧ acc' ++ [m] = acc ++ figs f n ∧ acc'.length < 1000
  | f, n, acc, h0, h, hl => by
    rw [whileD]
    by_cases q : n < 128
    · have q2 : ¬ (128 : Int) ≤ n := by omega
      refine ⟨n, acc, ?_, ?_, by omega⟩
      · simp! [q2]
      · cases f with
        | zero => rfl
        | succ f => rw [figs, if_pos q]
    · have q2 : (128 : Int) ≤ n := by omega
      cases f with
      | zero => exact absurd (show n < 128 by simpa using h) q
      | succ f =>
        have h2 : n / 128 < 128 ^ (f + 1) := by
          rw [Int.pow_succ] at h
          generalize (128 : Int) ^ (f + 1) = p at h
          omega
        obtain ⟨m, acc', e, e2, l2⟩ := whole_loop (A := A) f (n / 128) (acc ++ [128 + n % 128]) (by omega) h2 (by simp; omega)
        refine ⟨m, acc', ?_, ?_, l2⟩
        · rw [List.map_append] at e
          have l1 : acc.length < 16777216 := by omega
          unfold b_whole_l0 at e ⊢
          simp! [q2, List.length_map, l1]
          exact e
        · rw [e2, List.append_assoc, figs, if_neg q]
          rfl
def W64 : Int := 18446744073709551616
theorem whole_ok {A : Ads} {n : Int} (h0 : 0 ≤ n) (h1 : n < W64) : d_whole A [.val (.int n)] = .ok (.val (rowD (figs 10 n))) [none] := by
  unfold d_whole
  rw [x_fn rfl]
  unfold b_whole
  have e := is_below_ok (A := A) (d := .int n) (m := 18446744073709551616) rfl
  have hw : within (.int n) 0 (18446744073709551616 - 1) = true := by
    unfold W64 at h1
    simp only [within, decide_eq_true_eq]; omega
  rw [hw] at e
  obtain ⟨m, acc', e2, e3, l2⟩ := whole_loop (A := A) 10 n [] h0 (by unfold W64 at h1; omega) (by simp)
  rw [List.nil_append] at e3
  have e4 := whileL_of _ e2 (by simp)
  have l3 : acc'.length < 16777216 := by omega
  simp! [e]
  simp only [List.map_nil] at e4
  rw [e4]
  unfold rowD
  rw [← e3, List.map_append]
  simp! [List.length_map, l3]
theorem whole_no {A : Ads} {d : D} (h : pl d = true) (hw : within d 0 (W64 - 1) = false) : d_whole A [.val d] = .ex A.NoNumber none [none] := by
  unfold d_whole
  rw [x_fn rfl]
  unfold b_whole
  have e := is_below_ok (A := A) (m := 18446744073709551616) h
  rw [show within d 0 (18446744073709551616 - 1) = false from hw] at e
  simp! [e]
theorem figures_loop {A : Ads} : ∀ (ds : List D) (n : Int) (acc : List Int) (x : Option O), acc.length + ds.length < 1000 →
    ∃ m acc' y, forD (asgN 2) (b_law_figures_l0 A) ds [some (.val (.int n)), some (.fl (.lst (acc.map D.int))), x] = .ok .nx [some (.val (.int m)), some (.fl (.lst (acc'.map D.int))), y] ∧ acc' ++ [m] = acc ++ figs ds.length n ∧ acc'.length < 1000
  | [], n, acc, x, hl => ⟨n, acc, x, rfl, rfl, by simpa using hl⟩
  | d :: ds, n, acc, x, hl => by
    simp only [List.length_cons] at hl
    rw [x_forC]
    by_cases q : n < 128
    · refine ⟨n, acc, some (.val d), ?_, ?_, by omega⟩
      · unfold b_law_figures_l0
        simp! [q]
      · rw [List.length_cons, figs, if_pos q]
    · obtain ⟨m, acc', y, e, e2, l2⟩ := figures_loop (A := A) ds (n / 128) (acc ++ [n % 128 + 128]) (some (.val d)) (by simp; omega)
      refine ⟨m, acc', y, ?_, ?_, l2⟩
      · rw [List.map_append] at e
        have l1 : acc.length < 16777216 := by omega
        unfold b_law_figures_l0 at e ⊢
        simp! [q, List.length_map, l1]
        exact e
      · rw [e2, List.append_assoc, List.length_cons, figs, if_neg q, Int.add_comm (n % 128)]
        rfl
theorem figures_ok {A : Ads} {n : Int} : d_law_figures A [.val (.int n)] = .ok (.val (rowD (figs 10 n))) [none] := by
  unfold d_law_figures
  rw [x_fn rfl]
  unfold b_law_figures
  obtain ⟨m, acc', y, e, e2, l2⟩ := figures_loop (A := A) (intsD 0 10) n [] none (by simp [intsD])
  have l0 : (intsD 0 10).length = 10 := rfl
  rw [l0, List.nil_append] at e2
  simp only [List.map_nil] at e
  have l3 : acc'.length + 1 ≤ 16777216 := by omega
  simp! [x_rng1 (j := 10) (by omega) (by omega), e, List.length_map, l3]
  unfold rowD
  rw [← e2, List.map_append]
  rfl
end
end Lw
namespace Lw
open PySem PySem.Spec PyProof.Rows L2 Dn
noncomputable section
def rdF : List Int → Int → Int → Nat → Option (Int × Nat)
  | [], _, _, _ => none
  | b :: bs, num, w, k => if b < 128 then (if 18446744073709551616 ≤ num + b % 128 * w ∨ (b = 0 ∧ 0 < k) then none else some (num + b % 128 * w, k + 1)) else rdF bs (num + b % 128 * w) (w * 128) (k + 1)
theorem rdF_num : ∀ (bs : List Int) (num w : Int) (k : Nat) (n : Int) (k' : Nat), 0 ≤ num → 0 ≤ w → rdF bs num w k = some (n, k') → 0 ≤ n ∧ n < 18446744073709551616 ∧ k' ≤ k + bs.length
  | [], _, _, _, _, _, _, _, h => by cases h
  | b :: bs, num, w, k, n, k', h0, hw, h => by
    have hm : 0 ≤ b % 128 * w := Int.mul_nonneg (Int.emod_nonneg _ (by omega)) hw
    unfold rdF at h
    by_cases hb : b < 128
    · rw [if_pos hb] at h
      by_cases hc : 18446744073709551616 ≤ num + b % 128 * w ∨ (b = 0 ∧ 0 < k)
      · rw [if_pos hc] at h; cases h
      · rw [if_neg hc] at h
        cases h
        simp only [List.length_cons]
        omega
    · rw [if_neg hb] at h
      have := rdF_num bs _ _ _ n k' (by omega) (by omega) h
      simp only [List.length_cons]
      omega
theorem wal {A : Ads} {r : D} {at_ : Int} : ∀ (bs : List Int) (k : Nat) (num w : Int) (x4 x5 : Option O), (∀ n k', rdF bs num w k = some (n, k') →
      ∃ en, forD (asgT 2 (asgCons (asgN 4) (asgCons (asgN 5) asgNil))) (b_whole_at_l0 A) (enumD k (bs.map D.int)) [some (.val r), some (.val (.int at_)), some (.val (.int num)), some (.val (.int w)), x4, x5] = .ok (.rt (.val (.tup [.int n, .int (at_ + k')]))) (some (.val r) :: some (.val (.int at_)) :: en)) ∧
    (rdF bs num w k = none → (∃ y2 y3 y4 y5, forD (asgT 2 (asgCons (asgN 4) (asgCons (asgN 5) asgNil))) (b_whole_at_l0 A) (enumD k (bs.map D.int)) [some (.val r), some (.val (.int at_)), some (.val (.int num)), some (.val (.int w)), x4, x5] = .ok .nx [some (.val r), some (.val (.int at_)), y2, y3, y4, y5]) ∨
      ∃ en, forD (asgT 2 (asgCons (asgN 4) (asgCons (asgN 5) asgNil))) (b_whole_at_l0 A) (enumD k (bs.map D.int)) [some (.val r), some (.val (.int at_)), some (.val (.int num)), some (.val (.int w)), x4, x5] = .ex A.BadRow (some (["place"], [.int at_])) (some (.val r) :: some (.val (.int at_)) :: en))
  | [], k, num, w, x4, x5 => ⟨fun _ _ h => (by cases h), fun _ => .inl ⟨_, _, _, _, rfl⟩⟩
  | b :: bs, k, num, w, x4, x5 => by
    have ih := wal (A := A) (r := r) (at_ := at_) bs (k + 1) (num + b % 128 * w) (w * 128) (some (.val (.int (k : Int)))) (some (.val (.int b)))
    have m0 : 0 ≤ b % 128 := Int.emod_nonneg _ (by omega)
    have m1 : b % 128 < 128 := Int.emod_lt_of_pos _ (by omega)
    have m2 : -1000000000000 < b % 128 := by omega
    have m3 : b % 128 < 1000000000000 := by omega
    have ea : asgT 2 (asgCons (asgN 4) (asgCons (asgN 5) asgNil)) (.tup [.int (k : Int), .int b]) [some (.val r), some (.val (.int at_)), some (.val (.int num)), some (.val (.int w)), x4, x5] = some [some (.val r), some (.val (.int at_)), some (.val (.int num)), some (.val (.int w)), some (.val (.int (k : Int))), some (.val (.int b))] := by simp! [Dn.bind_ok]
    rw [List.map_cons, enumD, x_forC, ea]
    simp only
    by_cases hb : b < 128
    · have e0 : rdF (b :: bs) num w k = if 18446744073709551616 ≤ num + b % 128 * w ∨ (b = 0 ∧ 0 < k) then none else some (num + b % 128 * w, k + 1) := by rw [rdF, if_pos hb]
      rw [e0]
      by_cases h1 : (18446744073709551616 : Int) ≤ num + b % 128 * w
      · rw [if_pos (.inl h1)]
        refine ⟨fun _ _ h => (by cases h), fun _ => .inr ?_⟩
        unfold b_whole_at_l0
        simp! [m2, m3, hb, h1]
        exact ⟨_, rfl⟩
      · by_cases h2 : b = 0
        · by_cases h3 : 0 < k
          · have h3' : (0 : Int) < (k : Int) := by omega
            rw [if_pos (.inr ⟨h2, h3⟩)]
            refine ⟨fun _ _ h => (by cases h), fun _ => .inr ?_⟩
            subst h2
            unfold b_whole_at_l0
            simp! [m2, m3, h1, h3']
            exact ⟨_, rfl⟩
          · have h3' : ¬ (0 : Int) < (k : Int) := by omega
            rw [if_neg (fun z => z.elim h1 fun z => h3 z.2)]
            refine ⟨fun n k' h => ?_, fun h => (by cases h)⟩
            cases h
            subst h2
            unfold b_whole_at_l0
            simp! [m2, m3, h1, h3', Int.add_assoc]
            exact ⟨_, rfl⟩
        · rw [if_neg (fun z => z.elim h1 fun z => h2 z.1)]
          refine ⟨fun n k' h => ?_, fun h => (by cases h)⟩
          cases h
          unfold b_whole_at_l0
          simp! [m2, m3, hb, h1, h2, Int.add_assoc]
          exact ⟨_, rfl⟩
    · have e0 : rdF (b :: bs) num w k = rdF bs (num + b % 128 * w) (w * 128) (k + 1) := by rw [rdF, if_neg hb]
      have el : b_whole_at_l0 A [some (.val r), some (.val (.int at_)), some (.val (.int num)), some (.val (.int w)), some (.val (.int (k : Int))), some (.val (.int b))] = .ok .nx [some (.val r), some (.val (.int at_)), some (.val (.int (num + b % 128 * w))), some (.val (.int (w * 128))), some (.val (.int (k : Int))), some (.val (.int b))] := by
        unfold b_whole_at_l0
        simp! [m2, m3, hb]
      rw [e0, el]
      exact ih
end
end Lw
namespace Lw
open PySem PySem.Spec PyProof.Rows L2 Dn
noncomputable section
def at10 (bs : List Int) (p : Int) : List Int := (bs.drop p.toNat).take 10
theorem cut10 {bs : List Int} {p : Int} (h0 : 0 ≤ p) (h1 : p ≤ bs.length) : cutD (bs.map D.int) (some p) (some (p + 10)) = (at10 bs p).map D.int := by
  unfold Dn.cutD at10
  have e1 : HT.sIx (bs.map D.int).length 0 (some p) = p.toNat := by
    rw [List.length_map]; unfold HT.sIx; simp only; split <;> omega
  have e2 : HT.sIx (bs.map D.int).length (bs.map D.int).length (some (p + 10)) = min (p.toNat + 10) bs.length := by
    rw [List.length_map]; unfold HT.sIx; simp only; split <;> omega
  rw [e1, e2, ← List.map_drop, ← List.map_take]
  congr 1
  by_cases h : p.toNat + 10 ≤ bs.length
  · rw [Nat.min_eq_left h]; congr 1; omega
  · rw [Nat.min_eq_right (by omega), List.take_of_length_le (by rw [List.length_drop]; omega), List.take_of_length_le (by rw [List.length_drop]; omega)]
theorem at_told {A : Ads} {bs : List Int} {p n : Int} {k : Nat} (h0 : 0 ≤ p) (h1 : p ≤ bs.length) (h : rdF (at10 bs p) 0 1 0 = some (n, k)) : d_whole_at A [.val (rowD bs), .val (.int p)] = .ok (.val (.tup [.int n, .int (p + k)])) [some (.val (rowD bs)), some (.val (.int p))] := by
  unfold d_whole_at
  rw [x_fn rfl]
  unfold b_whole_at rowD
  obtain ⟨en, e⟩ := (wal (A := A) (r := .tup (bs.map D.int)) (at_ := p) (at10 bs p) 0 0 1 none none).1 n k h
  simp! [g_slT, cut10 h0 h1, enumItemsA, e]
theorem at_bad {A : Ads} {bs : List Int} {p : Int} (h0 : 0 ≤ p) (h1 : p ≤ bs.length) (h : rdF (at10 bs p) 0 1 0 = none) : d_whole_at A [.val (rowD bs), .val (.int p)] = .ex A.BadRow (some (["place"], [.int p])) [some (.val (rowD bs)), some (.val (.int p))] := by
  unfold d_whole_at
  rw [x_fn rfl]
  unfold b_whole_at rowD
  rcases (wal (A := A) (r := .tup (bs.map D.int)) (at_ := p) (at10 bs p) 0 0 1 none none).2 h with ⟨y2, y3, y4, y5, e⟩ | ⟨en, e⟩
  · simp! [g_slT, cut10 h0 h1, enumItemsA, e]
  · simp! [g_slT, cut10 h0 h1, enumItemsA, e]
theorem lna {A : Ads} {bs : List Int} {p : Int} (h0 : 0 ≤ p) : ∀ (f k : Nat) (num w : Int) (x4 x5 : Option O), (∀ n k', rdF ((bs.drop (p.toNat + k)).take f) num w k = some (n, k') →
      ∃ en, forD (asgN 4) (b_law_number_at_l0 A) ((List.range' k f).map fun (i : Nat) => D.int (i : Int)) [some (.val (rowD bs)), some (.val (.int p)), some (.val (.int num)), some (.val (.int w)), x4, x5] = .ok (.rt (.val (.tup [.int n, .int (p + k')]))) (some (.val (rowD bs)) :: some (.val (.int p)) :: en)) ∧
    (rdF ((bs.drop (p.toNat + k)).take f) num w k = none → (∃ y2 y3 y4 y5, forD (asgN 4) (b_law_number_at_l0 A) ((List.range' k f).map fun (i : Nat) => D.int (i : Int)) [some (.val (rowD bs)), some (.val (.int p)), some (.val (.int num)), some (.val (.int w)), x4, x5] = .ok .nx [some (.val (rowD bs)), some (.val (.int p)), y2, y3, y4, y5]) ∨
      ∃ en, forD (asgN 4) (b_law_number_at_l0 A) ((List.range' k f).map fun (i : Nat) => D.int (i : Int)) [some (.val (rowD bs)), some (.val (.int p)), some (.val (.int num)), some (.val (.int w)), x4, x5] = .ok (.rt (.val .non)) (some (.val (rowD bs)) :: some (.val (.int p)) :: en))
  | 0, k, num, w, x4, x5 => ⟨fun n k' h => by (rw [List.take_zero] at h; cases h), fun _ => .inl ⟨_, _, _, _, rfl⟩⟩
  | f + 1, k, num, w, x4, x5 => by
    rw [List.range'_succ, List.map_cons, x_forC, x_asgN]
    simp only [List.set_cons_succ, List.set_cons_zero]
    by_cases hk : p.toNat + k < bs.length
    · have hx : bs[p.toNat + k]? = some bs[p.toNat + k] := List.getElem?_eq_getElem hk
      generalize hb : bs[p.toNat + k] = b at hx
      have hd : (bs.drop (p.toNat + k)).take (f + 1) = b :: (bs.drop (p.toNat + (k + 1))).take f := by
        rw [List.drop_eq_getElem_cons hk, hb, List.take_succ_cons, Nat.add_assoc]
      rw [hd]
      have ih := lna (A := A) (bs := bs) h0 f (k + 1) (num + b % 128 * w) (w * 128) (some (.val (.int (k : Int)))) (some (.val (.int b)))
      have m0 : 0 ≤ b % 128 := Int.emod_nonneg _ (by omega)
      have m1 : b % 128 < 128 := Int.emod_lt_of_pos _ (by omega)
      have m2 : -1000000000000 < b % 128 := by omega
      have m3 : b % 128 < 1000000000000 := by omega
      have g1 : ¬ ((bs.length : Int) ≤ p + (k : Int)) := by omega
      have g2 : 0 ≤ p + (k : Int) := by omega
      have hx' : (bs.map D.int)[(p + (k : Int)).toNat]? = some (.int b) := by
        have : (p + (k : Int)).toNat = p.toNat + k := by omega
        rw [this, List.getElem?_map, hx]; rfl
      unfold rowD at *
      by_cases hb : b < 128
      · have e0 : rdF (b :: (bs.drop (p.toNat + (k + 1))).take f) num w k = if 18446744073709551616 ≤ num + b % 128 * w ∨ (b = 0 ∧ 0 < k) then none else some (num + b % 128 * w, k + 1) := by rw [rdF, if_pos hb]
        rw [e0]
        clear ih
        by_cases h1 : (18446744073709551616 : Int) ≤ num + b % 128 * w
        · rw [if_pos (.inl h1)]
          refine ⟨fun _ _ h => (by cases h), fun _ => .inr ?_⟩
          by_cases h2 : b = 0
          · subst h2
            by_cases h3 : (0 : Int) < (k : Int)
            · unfold b_law_number_at_l0
              simp! [List.length_map, g1, g2, hx', m2, m3, h1, h3]
              exact ⟨_, rfl⟩
            · unfold b_law_number_at_l0
              simp! [List.length_map, g1, g2, hx', m2, m3, h1, h3]
              exact ⟨_, rfl⟩
          · by_cases h3 : (0 : Int) < (k : Int)
            · unfold b_law_number_at_l0
              simp! [List.length_map, g1, g2, hx', m2, m3, hb, h1, h2, h3]
              exact ⟨_, rfl⟩
            · unfold b_law_number_at_l0
              simp! [List.length_map, g1, g2, hx', m2, m3, hb, h1, h3]
              exact ⟨_, rfl⟩
        · by_cases h2 : b = 0
          · by_cases h3 : 0 < k
            · have h3' : (0 : Int) < (k : Int) := by omega
              rw [if_pos (.inr ⟨h2, h3⟩)]
              refine ⟨fun _ _ h => (by cases h), fun _ => .inr ?_⟩
              subst h2
              unfold b_law_number_at_l0
              simp! [List.length_map, g1, g2, hx', m2, m3, h1, h3']
              exact ⟨_, rfl⟩
            · have h3' : ¬ (0 : Int) < (k : Int) := by omega
              rw [if_neg (fun z => z.elim h1 fun z => h3 z.2)]
              refine ⟨fun n k' h => ?_, fun h => (by cases h)⟩
              cases h
              subst h2
              unfold b_law_number_at_l0
              simp! [List.length_map, g1, g2, hx', m2, m3, h1, h3', Int.add_assoc]
              exact ⟨_, rfl⟩
          · rw [if_neg (fun z => z.elim h1 fun z => h2 z.1)]
            refine ⟨fun n k' h => ?_, fun h => (by cases h)⟩
            cases h
            unfold b_law_number_at_l0
            by_cases h3 : (0 : Int) < (k : Int)
            · simp! [List.length_map, g1, g2, hx', m2, m3, hb, h1, h2, h3, Int.add_assoc]
              exact ⟨_, rfl⟩
            · simp! [List.length_map, g1, g2, hx', m2, m3, hb, h1, h2, h3, Int.add_assoc]
              exact ⟨_, rfl⟩
      · have e0 : rdF (b :: (bs.drop (p.toNat + (k + 1))).take f) num w k = rdF ((bs.drop (p.toNat + (k + 1))).take f) (num + b % 128 * w) (w * 128) (k + 1) := by rw [rdF, if_neg hb]
        have el : b_law_number_at_l0 A [some (.val (.tup (bs.map D.int))), some (.val (.int p)), some (.val (.int num)), some (.val (.int w)), some (.val (.int (k : Int))), x5] = .ok .nx [some (.val (.tup (bs.map D.int))), some (.val (.int p)), some (.val (.int (num + b % 128 * w))), some (.val (.int (w * 128))), some (.val (.int (k : Int))), some (.val (.int b))] := by
          unfold b_law_number_at_l0
          simp! [List.length_map, g1, g2, hx', m2, m3, hb]
        rw [e0, el]
        exact ih
    · have hd : (bs.drop (p.toNat + k)).take (f + 1) = [] := by rw [List.drop_of_length_le (by omega)]; rfl
      rw [hd]
      refine ⟨fun _ _ h => (by cases h), fun _ => .inr ?_⟩
      have g1 : (bs.length : Int) ≤ p + (k : Int) := by omega
      unfold b_law_number_at_l0 rowD
      simp! [List.length_map, g1]
      exact ⟨_, rfl⟩
theorem ints10 : intsD 0 10 = (List.range' 0 10).map fun (i : Nat) => D.int (i : Int) := by rfl
theorem num_told {A : Ads} {bs : List Int} {p n : Int} {k : Nat} (h0 : 0 ≤ p) (h : rdF (at10 bs p) 0 1 0 = some (n, k)) : d_law_number_at A [.val (rowD bs), .val (.int p)] = .ok (.val (.tup [.int n, .int (p + k)])) [some (.val (rowD bs)), some (.val (.int p))] := by
  unfold d_law_number_at
  rw [x_fn rfl]
  unfold b_law_number_at
  obtain ⟨en, e⟩ := (lna (A := A) (bs := bs) h0 10 0 0 1 none none).1 n k h
  simp! [x_rng1 (j := 10) (by omega) (by omega), ints10, e]
theorem num_non {A : Ads} {bs : List Int} {p : Int} (h0 : 0 ≤ p) (h : rdF (at10 bs p) 0 1 0 = none) : d_law_number_at A [.val (rowD bs), .val (.int p)] = .ok (.val .non) [some (.val (rowD bs)), some (.val (.int p))] := by
  unfold d_law_number_at
  rw [x_fn rfl]
  unfold b_law_number_at
  rcases (lna (A := A) (bs := bs) h0 10 0 0 1 none none).2 h with ⟨y2, y3, y4, y5, e⟩ | ⟨en, e⟩
  · simp! [x_rng1 (j := 10) (by omega) (by omega), ints10, e]
  · simp! [x_rng1 (j := 10) (by omega) (by omega), ints10, e]
end
end Lw
namespace Lw
open PySem PySem.Spec PyProof.Rows L2 Dn
noncomputable section
theorem rd_back : ∀ (f : Nat) (n : Int) (post : List Int) (num w : Int) (k : Nat), 0 ≤ n → n < 128 ^ (f + 1) → 0 < w → num + n * w < 18446744073709551616 → (k = 0 ∨ 0 < n) →
    rdF ((figs f n ++ post).take (f + 1)) num w k = some (num + n * w, k + (figs f n).length)
  | f, n, post, num, w, k, h0, h, hw, hs, hk => by
    by_cases q : n < 128
    · have e : figs f n = [n] := by
        cases f with
        | zero => rfl
        | succ f => rw [figs, if_pos q]
      have m : n % 128 = n := Int.emod_eq_of_lt h0 q
      rw [e, List.cons_append, List.take_succ_cons, rdF, if_pos q, m, if_neg (by omega)]
      rfl
    · cases f with
      | zero => exact absurd (show n < 128 by simpa using h) q
      | succ f =>
        have h2 : n / 128 < 128 ^ (f + 1) := by
          rw [Int.pow_succ] at h
          generalize (128 : Int) ^ (f + 1) = p at h
          omega
        have e : figs (f + 1) n = (128 + n % 128) :: figs f (n / 128) := by rw [figs, if_neg q]
        have m : (128 + n % 128) % 128 = n % 128 := by omega
        have s : num + n % 128 * w + n / 128 * (w * 128) = num + n * w := by
          have : n = n % 128 + n / 128 * 128 := by omega
          conv => rhs; rw [this, Int.add_mul, Int.mul_assoc, Int.mul_comm 128 w]
          rw [Int.add_assoc]
        have ih := rd_back f (n / 128) post (num + n % 128 * w) (w * 128) (k + 1) (by omega) h2 (by omega) (by rw [s]; exact hs) (.inr (by omega))
        rw [e, List.cons_append, List.take_succ_cons, rdF, if_neg (by omega), m, ih, s, List.length_cons]
        congr 2
        omega
theorem rd_row {pre post : List Int} {n : Int} (h0 : 0 ≤ n) (h : n < W64) : rdF (at10 (pre ++ figs 10 n ++ post) (pre.length : Int)) 0 1 0 = some (n, (figs 10 n).length) := by
  have hp : n < 128 ^ 10 := by unfold W64 at h; omega
  have e : figs 10 n = figs 9 n := figs_up 9 n h0 hp
  unfold at10
  rw [Int.toNat_natCast, List.append_assoc, List.drop_left, e]
  have := rd_back 9 n post 0 1 0 h0 hp (by omega) (by unfold W64 at h; omega) (.inl rfl)
  rw [this]
  congr 2
  · omega
  · omega
end
end Lw
namespace Lw
open PySem PySem.Spec PyProof.Rows L2 Dn
noncomputable section
theorem x_tryHx {g : En → Out Fl} {m : Addr → Option Bool} {h : En → Out Fl} {en : En} : tryHx g m h en = (match g en with
  | .ex C fs en' => match m C with
    | some true => h en'
    | some false => .ex C fs en'
    | none => .bad
  | o => o) := rfl
structure Pn (d : D) : Prop where
  a : pl d = true
  b : ∀ ds, d = .tup ds → ∀ x ∈ ds, pl x = true
theorem pn_row (bs : List Int) : Pn (rowD bs) := ⟨rfl, pl_row⟩
theorem check_ok {A : Ads} {d e : D} (hd : Pn d) (he : Pn e) (h1 : isRow d = true) (h2 : isRow e = true) : d_check_rows A [.val (.tup [d, e])] = .ok (.val .non) [some (.val (.tup [d, e]))] := by
  have e1 := is_row_ok (A := A) hd.a hd.b
  have e2 := is_row_ok (A := A) he.a he.b
  rw [h1] at e1
  rw [h2] at e2
  unfold d_check_rows
  rw [x_fn rfl]
  unfold b_check_rows
  simp! [x_forC, x_forN]
  unfold b_check_rows_l0
  simp! [x_forC, x_forN, e1, e2]
theorem check_no {A : Ads} {d e : D} (hd : Pn d) (he : Pn e) (h : isRow d = false ∨ isRow e = false) : d_check_rows A [.val (.tup [d, e])] = .ex A.NoRow none [some (.val (.tup [d, e]))] := by
  have e1 := is_row_ok (A := A) hd.a hd.b
  have e2 := is_row_ok (A := A) he.a he.b
  unfold d_check_rows
  rw [x_fn rfl]
  unfold b_check_rows
  simp! [x_forC, x_forN]
  unfold b_check_rows_l0
  cases q1 : isRow d with
  | false =>
    rw [q1] at e1
    simp! [x_forC, x_forN, e1]
  | true =>
    have q2 : isRow e = false := by
      rcases h with h | h
      · rw [h] at q1; cases q1
      · exact h
    rw [q1] at e1
    rw [q2] at e2
    simp! [x_forC, x_forN, e1, e2]
theorem rows_ok {A : Ads} {one bs : List Int} (l1 : one.length ≤ 300000) (b1 : ∀ b ∈ one, Byte b) (l2 : bs.length ≤ 300000) (b2 : ∀ b ∈ bs, Byte b) : d_check_rows A [.val (.tup [rowD one, rowD bs])] = .ok (.val .non) [some (.val (.tup [rowD one, rowD bs]))] :=
  check_ok (pn_row one) (pn_row bs) (row_is l1 b1) (row_is l2 b2)
/-- the part at p: its kind, how many, the place behind it -/
def partF (bs : List Int) (p : Int) : Option (Int × Int × Int) := match rdF (at10 bs p) 0 1 0 with
  | none => none
  | some (n, k) => if n / 3 = 0 ∨ (bs.length : Int) < p + k + (if n % 3 = 2 then n / 3 else 0) then none else some (n % 3, n / 3, p + k + (if n % 3 = 2 then n / 3 else 0))
theorem clB {A : Ads} (dd : Dist A) : clsT (ct_BadRow A) A.BadRow = some true := by
  have h := dd.d_BadChange_BadRow
  simp [clsT, ct_BadRow, List.lookup, beq_eq_false_iff_ne.mpr h.symm]
theorem part_bad {A : Ads} (dd : Dist A) {bs : List Int} {p : Int} (h0 : 0 ≤ p) (h1 : p ≤ bs.length) (h : partF bs p = none) : d_part_at A [.val (rowD bs), .val (.int p)] = .ex A.BadChange (some (["place"], [.int p])) [some (.val (rowD bs)), some (.val (.int p))] := by
  unfold d_part_at
  rw [x_fn rfl]
  unfold b_part_at
  unfold partF at h
  cases q : rdF (at10 bs p) 0 1 0 with
  | none =>
    simp! [x_tryHx, at_bad (A := A) h0 h1 q, clB dd]
  | some r =>
    obtain ⟨n, k⟩ := r
    have hn := rdF_num _ _ _ _ _ _ (by omega) (by omega) q
    rw [q] at h
    simp only at h
    have et := at_told (A := A) h0 h1 q
    have g0 : 0 ≤ n / 3 := by omega
    by_cases c2 : n % 3 = 2
    · rw [if_pos c2] at h
      by_cases c0 : n / 3 = 0
      · unfold rowD at *
        simp! [x_tryHx, et, c2, c0, List.length_map]
      · have c1 : (bs.length : Int) < p + k + n / 3 := by
          rcases Decidable.em ((bs.length : Int) < p + k + n / 3) with z | z
          · exact z
          · rw [if_neg (by rintro (y | y) <;> contradiction)] at h; cases h
        unfold rowD at *
        simp! [x_tryHx, et, c2, c0, c1, List.length_map]
    · rw [if_neg c2] at h
      by_cases c0 : n / 3 = 0
      · unfold rowD at *
        simp! [x_tryHx, et, c2, c0, List.length_map]
      · have c1 : (bs.length : Int) < p + k := by
          rcases Decidable.em ((bs.length : Int) < p + k) with z | z
          · exact z
          · rw [if_neg (fun y => y.elim c0 fun y => z (by omega))] at h; cases h
        unfold rowD at *
        simp! [x_tryHx, et, c2, c0, c1, List.length_map]
theorem part_told {A : Ads} {bs : List Int} {p kd m b : Int} (h0 : 0 ≤ p) (h1 : p ≤ bs.length) (h : partF bs p = some (kd, m, b)) : d_part_at A [.val (rowD bs), .val (.int p)] = .ok (.val (.tup [.int kd, .int m, .int b])) [some (.val (rowD bs)), some (.val (.int p))] := by
  unfold d_part_at
  rw [x_fn rfl]
  unfold b_part_at
  unfold partF at h
  cases q : rdF (at10 bs p) 0 1 0 with
  | none => rw [q] at h; cases h
  | some r =>
    obtain ⟨n, k⟩ := r
    rw [q] at h
    simp only at h
    have et := at_told (A := A) h0 h1 q
    by_cases c2 : n % 3 = 2
    · rw [if_pos c2] at h
      by_cases c : n / 3 = 0 ∨ (bs.length : Int) < p + k + n / 3
      · rw [if_pos c] at h; cases h
      · rw [if_neg c] at h
        cases h
        have c0 : ¬ n / 3 = 0 := fun z => c (.inl z)
        have c1 : ¬ (bs.length : Int) < p + k + n / 3 := fun z => c (.inr z)
        unfold rowD at *
        simp! [x_tryHx, et, c2, c0, c1, List.length_map]
    · rw [if_neg c2] at h
      by_cases c : n / 3 = 0 ∨ (bs.length : Int) < p + k + 0
      · rw [if_pos c] at h; cases h
      · rw [if_neg c] at h
        cases h
        have c0 : ¬ n / 3 = 0 := fun z => c (.inl z)
        have c1 : ¬ (bs.length : Int) < p + k := fun z => c (.inr (by omega))
        unfold rowD at *
        simp! [x_tryHx, et, c2, c0, c1, List.length_map, Int.add_zero]
theorem part_facts {bs : List Int} {p kd m b : Int} (h0 : 0 ≤ p) (h1 : p ≤ bs.length) (h : partF bs p = some (kd, m, b)) : 0 ≤ kd ∧ kd < 3 ∧ 0 < m ∧ p < b ∧ b ≤ bs.length ∧ (kd = 2 → p < b - m) := by
  unfold partF at h
  cases q : rdF (at10 bs p) 0 1 0 with
  | none => rw [q] at h; cases h
  | some r =>
    obtain ⟨n, k⟩ := r
    have hn := rdF_num _ _ _ _ _ _ (by omega) (by omega) q
    have hk : 0 < k := by
      cases e : at10 bs p with
      | nil => rw [e] at q; cases q
      | cons x r =>
        rw [e] at q
        unfold rdF at q
        split at q
        · split at q
          · cases q
          · cases q; omega
        · have : ∀ (bs : List Int) (num w : Int) (k : Nat) (n : Int) (k' : Nat), rdF bs num w k = some (n, k') → k ≤ k' := by
            intro bs
            induction bs with
            | nil => intro num w k n k' h; cases h
            | cons y ys ih =>
              intro num w k n k' h
              unfold rdF at h
              split at h
              · split at h
                · cases h
                · cases h; omega
              · have := ih _ _ _ _ _ h; omega
          have := this _ _ _ _ _ _ q
          omega
    rw [q] at h
    simp only at h
    by_cases c : n / 3 = 0 ∨ (bs.length : Int) < p + k + (if n % 3 = 2 then n / 3 else 0)
    · rw [if_pos c] at h; cases h
    · rw [if_neg c] at h
      cases h
      have c0 : ¬ n / 3 = 0 := fun z => c (.inl z)
      have c1 : ¬ (bs.length : Int) < p + k + (if n % 3 = 2 then n / 3 else 0) := fun z => c (.inr z)
      by_cases c2 : n % 3 = 2
      · rw [if_pos c2] at *
        omega
      · rw [if_neg c2] at *
        omega
end
end Lw
namespace Lw
open PySem PySem.Spec PyProof.Rows L2 Dn
noncomputable section
/-- what a row of parts makes of one: the row made, or the place of the part that doesn't fit -/
def ledF (one bs : List Int) : Nat → Int → Int → List Int → Sum (List Int) Int
  | 0, p, _, _ => .inr p
  | f + 1, p, t, made => if p = bs.length then .inl made else match partF bs p with
    | none => .inr p
    | some (kd, m, b) => if kd = 2 then ledF one bs f b t (made ++ (bs.drop (b - m).toNat).take m.toNat)
      else if (one.length : Int) < t + m then .inr p
      else ledF one bs f b (t + m) (if kd = 0 then made ++ (one.drop t.toNat).take m.toNat else made)
theorem cut_mid {bs : List Int} {a b : Int} (h0 : 0 ≤ a) (h1 : a ≤ b) : Dn.cutD (bs.map D.int) (some a) (some b) = ((bs.drop a.toNat).take (b - a).toNat).map D.int := by
  unfold Dn.cutD
  have e1 : HT.sIx (bs.map D.int).length 0 (some a) = min a.toNat bs.length := by
    rw [List.length_map]; unfold HT.sIx; simp only; split <;> omega
  have e2 : HT.sIx (bs.map D.int).length (bs.map D.int).length (some b) = min b.toNat bs.length := by
    rw [List.length_map]; unfold HT.sIx; simp only; split <;> omega
  rw [e1, e2, ← List.map_drop, ← List.map_take]
  congr 1
  by_cases c : a.toNat < bs.length
  · rw [Nat.min_eq_left (Nat.le_of_lt c)]
    by_cases h : b.toNat ≤ bs.length
    · rw [Nat.min_eq_left h]; congr 1; omega
    · rw [Nat.min_eq_right (by omega), List.take_of_length_le (by rw [List.length_drop]; omega), List.take_of_length_le (by rw [List.length_drop]; omega)]
  · rw [Nat.min_eq_right (show bs.length ≤ a.toNat by omega), List.drop_of_length_le (Nat.le_refl _), List.drop_of_length_le (by omega)]
    simp
theorem take_len {bs : List Int} {a m : Nat} : ((bs.drop a).take m).length ≤ m := by simp; omega
section
variable {A : Ads} (dd : Dist A) {one bs : List Int} (lo : one.length ≤ 100000) (lb : bs.length ≤ 100000)
include dd lo lb
theorem changed_loop : ∀ (f : Nat) (p t : Int) (made : List Int) (x5 x6 x7 : Option O), 0 ≤ p → p ≤ bs.length → 0 ≤ t → t ≤ one.length → (bs.length : Int) - p < f → (made.length : Int) ≤ t + p →
    (∀ out, ledF one bs f p t made = .inl out → (out.length : Int) ≤ one.length + bs.length ∧ ∃ y3 y4 y5 y6 y7, whileD (tstD (op2 ltI (slotA 4) (tA (opN (on1 lenS) (consA (slotA 1) (nilA)))))) (b_changed_l0 A) f [some (.val (rowD one)), some (.val (rowD bs)), some (.fl (.lst (made.map D.int))), some (.val (.int t)), some (.val (.int p)), x5, x6, x7] =
      .ok .nx [some (.val (rowD one)), some (.val (rowD bs)), some (.fl (.lst (out.map D.int))), y3, y4, y5, y6, y7]) ∧
    (∀ q, ledF one bs f p t made = .inr q → ∃ en, whileD (tstD (op2 ltI (slotA 4) (tA (opN (on1 lenS) (consA (slotA 1) (nilA)))))) (b_changed_l0 A) f [some (.val (rowD one)), some (.val (rowD bs)), some (.fl (.lst (made.map D.int))), some (.val (.int t)), some (.val (.int p)), x5, x6, x7] =
      .ex A.BadChange (some (["place"], [.int q])) (some (.val (rowD one)) :: some (.val (rowD bs)) :: en))
  | 0, p, t, made, x5, x6, x7 => fun h0 h1 t0 t1 hf hm => absurd hf (by omega)
  | f + 1, p, t, made, x5, x6, x7 => fun h0 h1 t0 t1 hf hm => by
    rw [whileD]
    have lw : (made.map D.int).length = made.length := List.length_map _
    by_cases c : p = bs.length
    · have e : ledF one bs (f + 1) p t made = .inl made := by rw [ledF, if_pos c]
      have c2 : ¬ p < (bs.length : Int) := by omega
      refine ⟨fun out h => ?_, fun q h => by rw [e] at h; cases h⟩
      rw [e] at h
      cases h
      refine ⟨by omega, some (.val (.int t)), some (.val (.int p)), x5, x6, x7, ?_⟩
      unfold rowD
      simp! [List.length_map, c2]
    · have c2 : p < (bs.length : Int) := by omega
      cases hp : partF bs p with
      | none =>
        have e : ledF one bs (f + 1) p t made = .inr p := by rw [ledF, if_neg c, hp]
        have eb := part_bad (A := A) dd h0 h1 hp
        refine ⟨fun out h => (by rw [e] at h; cases h), fun q h => ?_⟩
        rw [e] at h
        cases h
        unfold b_changed_l0
        unfold rowD at *
        simp! [List.length_map, c2, eb]
        exact ⟨_, rfl⟩
      | some r =>
        obtain ⟨kd, m, b⟩ := r
        obtain ⟨k0, k1, m0, pb, bl, k2⟩ := part_facts h0 h1 hp
        have et := part_told (A := A) h0 h1 hp
        by_cases ck : kd = 2
        · subst ck
          have k2 := k2 rfl
          have e : ledF one bs (f + 1) p t made = ledF one bs f b t (made ++ (bs.drop (b - m).toNat).take m.toNat) := by rw [ledF, if_neg c, hp]; rfl
          have tl : ((bs.drop (b - m).toNat).take m.toNat).length ≤ m.toNat := take_len
          have ih := changed_loop f b t (made ++ (bs.drop (b - m).toNat).take m.toNat) (some (.val (.int 2))) (some (.val (.int m))) (some (.val (.int b))) (by omega) bl t0 t1 (by omega) (by rw [List.length_append]; omega)
          have ec : Dn.cutD (bs.map D.int) (some (b - m)) (some b) = ((bs.drop (b - m).toNat).take m.toNat).map D.int := by
            rw [cut_mid (by omega) (by omega)]; congr 3; omega
          have lim : made.length + ((bs.drop (b - m).toNat).take m.toNat).length ≤ 16777216 := by omega
          have es : b_changed_l0 A [some (.val (rowD one)), some (.val (rowD bs)), some (.fl (.lst (made.map D.int))), some (.val (.int t)), some (.val (.int p)), x5, x6, x7] = .ok .nx [some (.val (rowD one)), some (.val (rowD bs)), some (.fl (.lst ((made ++ (bs.drop (b - m).toNat).take m.toNat).map D.int))), some (.val (.int t)), some (.val (.int b)), some (.val (.int 2)), some (.val (.int m)), some (.val (.int b))] := by
            unfold b_changed_l0
            unfold rowD at *
            rw [List.map_append]
            simp! [et, x_ext, g_slT, ec, List.length_map, lim]
          rw [e]
          have ct : tstD (op2 ltI (slotA 4) (tA (opN (on1 lenS) (consA (slotA 1) (nilA))))) [some (.val (rowD one)), some (.val (rowD bs)), some (.fl (.lst (made.map D.int))), some (.val (.int t)), some (.val (.int p)), x5, x6, x7] = .ok true [some (.val (rowD one)), some (.val (rowD bs)), some (.fl (.lst (made.map D.int))), some (.val (.int t)), some (.val (.int p)), x5, x6, x7] := by
            unfold rowD
            simp! [List.length_map, c2]
          rw [ct, bind_ok, es]
          exact ih
        · by_cases cm : (one.length : Int) < t + m
          · have e : ledF one bs (f + 1) p t made = .inr p := by rw [ledF, if_neg c, hp]; simp only; rw [if_neg ck, if_pos cm]
            refine ⟨fun out h => (by rw [e] at h; cases h), fun q h => ?_⟩
            rw [e] at h
            cases h
            have cm2 : (one.length : Int) - t < m := by omega
            unfold b_changed_l0
            unfold rowD at *
            simp! [List.length_map, c2, et, ck, cm2]
            exact ⟨_, rfl⟩
          · have cm2 : ¬ (one.length : Int) - t < m := by omega
            have ct : tstD (op2 ltI (slotA 4) (tA (opN (on1 lenS) (consA (slotA 1) (nilA))))) [some (.val (rowD one)), some (.val (rowD bs)), some (.fl (.lst (made.map D.int))), some (.val (.int t)), some (.val (.int p)), x5, x6, x7] = .ok true [some (.val (rowD one)), some (.val (rowD bs)), some (.fl (.lst (made.map D.int))), some (.val (.int t)), some (.val (.int p)), x5, x6, x7] := by
              unfold rowD
              simp! [List.length_map, c2]
            by_cases c0 : kd = 0
            · subst c0
              have e : ledF one bs (f + 1) p t made = ledF one bs f b (t + m) (made ++ (one.drop t.toNat).take m.toNat) := by rw [ledF, if_neg c, hp]; simp only; rw [if_neg ck, if_neg cm]; rfl
              have tl : ((one.drop t.toNat).take m.toNat).length ≤ m.toNat := take_len
              have ih := changed_loop f b (t + m) (made ++ (one.drop t.toNat).take m.toNat) (some (.val (.int 0))) (some (.val (.int m))) (some (.val (.int b))) (by omega) bl (by omega) (by omega) (by omega) (by rw [List.length_append]; omega)
              have ec : Dn.cutD (one.map D.int) (some t) (some (t + m)) = ((one.drop t.toNat).take m.toNat).map D.int := by
                rw [cut_mid (by omega) (by omega)]; congr 3; omega
              have lim : made.length + ((one.drop t.toNat).take m.toNat).length ≤ 16777216 := by omega
              have es : b_changed_l0 A [some (.val (rowD one)), some (.val (rowD bs)), some (.fl (.lst (made.map D.int))), some (.val (.int t)), some (.val (.int p)), x5, x6, x7] = .ok .nx [some (.val (rowD one)), some (.val (rowD bs)), some (.fl (.lst ((made ++ (one.drop t.toNat).take m.toNat).map D.int))), some (.val (.int (t + m))), some (.val (.int b)), some (.val (.int 0)), some (.val (.int m)), some (.val (.int b))] := by
                unfold b_changed_l0
                unfold rowD at *
                rw [List.map_append]
                simp! [et, x_ext, g_slT, ec, List.length_map, lim, cm2]
              rw [e, ct, bind_ok, es]
              exact ih
            · have e : ledF one bs (f + 1) p t made = ledF one bs f b (t + m) made := by rw [ledF, if_neg c, hp]; simp only; rw [if_neg ck, if_neg cm, if_neg c0]
              have ih := changed_loop f b (t + m) made (some (.val (.int kd))) (some (.val (.int m))) (some (.val (.int b))) (by omega) bl (by omega) (by omega) (by omega) (by omega)
              have es : b_changed_l0 A [some (.val (rowD one)), some (.val (rowD bs)), some (.fl (.lst (made.map D.int))), some (.val (.int t)), some (.val (.int p)), x5, x6, x7] = .ok .nx [some (.val (rowD one)), some (.val (rowD bs)), some (.fl (.lst (made.map D.int))), some (.val (.int (t + m))), some (.val (.int b)), some (.val (.int kd)), some (.val (.int m)), some (.val (.int b))] := by
                unfold b_changed_l0
                unfold rowD at *
                simp! [et, x_ext, g_slT, List.length_map, cm2, ck, c0]
              rw [e, ct, bind_ok, es]
              exact ih
/-- what changed tells -/
theorem changed_told {out : List Int} (b1 : ∀ b ∈ one, Byte b) (b2 : ∀ b ∈ bs, Byte b) (h : ledF one bs (bs.length + 1) 0 0 [] = .inl out) : (out.length : Int) ≤ one.length + bs.length ∧ d_changed A [.val (rowD one), .val (rowD bs)] = .ok (.val (rowD out)) [some (.val (rowD one)), some (.val (rowD bs))] := by
  obtain ⟨l, y3, y4, y5, y6, y7, e⟩ := (changed_loop dd lo lb (bs.length + 1) 0 0 [] none none none (by omega) (by omega) (by omega) (by omega) (by omega) (by simp)).1 out h
  refine ⟨l, ?_⟩
  have e4 := whileL_of _ e (by simp)
  have er := rows_ok (A := A) (one := one) (bs := bs) (by omega) b1 (by omega) b2
  have lim : out.length ≤ 16777216 := by omega
  simp only [List.map_nil] at e4
  unfold d_changed
  rw [x_fn rfl]
  unfold b_changed
  simp! [er, e4, List.length_map, lim]
  rfl
theorem changed_bad {q : Int} (b1 : ∀ b ∈ one, Byte b) (b2 : ∀ b ∈ bs, Byte b) (h : ledF one bs (bs.length + 1) 0 0 [] = .inr q) : d_changed A [.val (rowD one), .val (rowD bs)] = .ex A.BadChange (some (["place"], [.int q])) [some (.val (rowD one)), some (.val (rowD bs))] := by
  obtain ⟨en, e⟩ := (changed_loop dd lo lb (bs.length + 1) 0 0 [] none none none (by omega) (by omega) (by omega) (by omega) (by omega) (by simp)).2 q h
  have e4 := whileL_of _ e (by simp)
  have er := rows_ok (A := A) (one := one) (bs := bs) (by omega) b1 (by omega) b2
  simp only [List.map_nil] at e4
  unfold d_changed
  rw [x_fn rfl]
  unfold b_changed
  simp! [er, e4]
end
end
end Lw
namespace Lw
open PySem PySem.Spec PyProof.Rows L2 Dn
noncomputable section
theorem at10_len {bs : List Int} {p : Int} (h0 : 0 ≤ p) (h1 : p ≤ bs.length) : ((at10 bs p).length : Int) ≤ bs.length - p := by
  unfold at10
  rw [List.length_take, List.length_drop]
  omega
section
variable {A : Ads} {one bs : List Int} (lo : one.length ≤ 100000) (lb : bs.length ≤ 100000)
include lo lb
theorem led_loop : ∀ (ds : List D) (p t : Int) (made : List Int) (x5 x6 x7 x8 : Option O), 0 ≤ p → p ≤ bs.length → 0 ≤ t → t ≤ one.length → (bs.length : Int) - p < ds.length → (made.length : Int) ≤ t + p →
    (∀ out, ledF one bs ds.length p t made = .inl out → ∃ en, forD (asgN 5) (b_law_led_l0 A) ds [some (.val (rowD one)), some (.val (rowD bs)), some (.val (rowD made)), some (.val (.int t)), some (.val (.int p)), x5, x6, x7, x8] =
      .ok (.rt (.val (.tup [.str "told", rowD out]))) (some (.val (rowD one)) :: some (.val (rowD bs)) :: en)) ∧
    (∀ q, ledF one bs ds.length p t made = .inr q → ∃ en, forD (asgN 5) (b_law_led_l0 A) ds [some (.val (rowD one)), some (.val (rowD bs)), some (.val (rowD made)), some (.val (.int t)), some (.val (.int p)), x5, x6, x7, x8] =
      .ok (.rt (.val (.tup [.str "BadChange", .int q]))) (some (.val (rowD one)) :: some (.val (rowD bs)) :: en))
  | [], p, t, made, x5, x6, x7, x8 => fun h0 h1 t0 t1 hf hl => absurd hf (by simp only [List.length_nil]; omega)
  | d :: ds, p, t, made, x5, x6, x7, x8 => fun h0 h1 t0 t1 hf hl => by
    rw [List.length_cons] at *
    rw [x_forC, x_asgN]
    simp only [List.set_cons_succ, List.set_cons_zero]
    by_cases c : p = bs.length
    · have e : ledF one bs (ds.length + 1) p t made = .inl made := by rw [ledF, if_pos c]
      refine ⟨fun out h => ?_, fun q h => by rw [e] at h; cases h⟩
      rw [e] at h
      cases h
      unfold b_law_led_l0
      unfold rowD
      simp! [List.length_map, c]
      exact ⟨_, rfl⟩
    · cases hr : rdF (at10 bs p) 0 1 0 with
      | none =>
        have hp : partF bs p = none := by unfold partF; rw [hr]
        have e : ledF one bs (ds.length + 1) p t made = .inr p := by rw [ledF, if_neg c, hp]
        have en := num_non (A := A) h0 hr
        refine ⟨fun out h => (by rw [e] at h; cases h), fun q h => ?_⟩
        rw [e] at h
        cases h
        unfold b_law_led_l0
        unfold rowD at *
        simp! [List.length_map, c, en]
        exact ⟨_, rfl⟩
      | some r =>
        obtain ⟨n, k⟩ := r
        have hn := rdF_num _ _ _ _ _ _ (by omega) (by omega) hr
        have hk := at10_len h0 h1
        have et := num_told (A := A) h0 hr
        have hm3 : n % 3 < 3 := Int.emod_lt_of_pos _ (by omega)
        have hm0 : 0 ≤ n % 3 := Int.emod_nonneg _ (by omega)
        by_cases c0 : n / 3 = 0
        · have hp : partF bs p = none := by unfold partF; rw [hr]; simp only; rw [if_pos (.inl c0)]
          have e : ledF one bs (ds.length + 1) p t made = .inr p := by rw [ledF, if_neg c, hp]
          refine ⟨fun out h => (by rw [e] at h; cases h), fun q h => ?_⟩
          rw [e] at h
          cases h
          unfold b_law_led_l0
          unfold rowD at *
          simp! [List.length_map, c, et, c0]
          exact ⟨_, rfl⟩
        · have hm : 0 < n / 3 := by omega
          by_cases c2 : n % 3 = 2
          · by_cases c1 : (bs.length : Int) < p + k + n / 3
            · have hp : partF bs p = none := by unfold partF; rw [hr]; simp only; rw [if_pos (.inr (by rw [if_pos c2]; exact c1))]
              have e : ledF one bs (ds.length + 1) p t made = .inr p := by rw [ledF, if_neg c, hp]
              refine ⟨fun out h => (by rw [e] at h; cases h), fun q h => ?_⟩
              rw [e] at h
              cases h
              unfold b_law_led_l0
              unfold rowD at *
              simp! [List.length_map, c, et, c0, c2, c1]
              exact ⟨_, rfl⟩
            · have hp : partF bs p = some (2, n / 3, p + k + n / 3) := by
                unfold partF; rw [hr]; simp only; rw [if_pos c2, if_neg (fun z => z.elim c0 c1), c2]
              have e : ledF one bs (ds.length + 1) p t made = ledF one bs ds.length (p + k + n / 3) t (made ++ (bs.drop (p + k + n / 3 - n / 3).toNat).take (n / 3).toNat) := by
                rw [ledF, if_neg c, hp]; rfl
              have eb : p + k + n / 3 - n / 3 = p + k := by omega
              rw [eb] at e
              have ec : Dn.cutD (bs.map D.int) (some (p + k)) (some (p + k + n / 3)) = ((bs.drop (p + k).toNat).take (n / 3).toNat).map D.int := by
                rw [cut_mid (by omega) (by omega)]; congr 3; omega
              have pk := part_facts h0 h1 hp
              have tl : ((bs.drop (p + k).toNat).take (n / 3).toNat).length ≤ (n / 3).toNat := take_len
              have lim : made.length + ((bs.drop (p + k).toNat).take (n / 3).toNat).length ≤ 16777216 := by omega
              have es : b_law_led_l0 A [some (.val (rowD one)), some (.val (rowD bs)), some (.val (rowD made)), some (.val (.int t)), some (.val (.int p)), some (.val d), x6, x7, x8] = .ok .nx [some (.val (rowD one)), some (.val (rowD bs)), some (.val (rowD (made ++ (bs.drop (p + k).toNat).take (n / 3).toNat))), some (.val (.int t)), some (.val (.int (p + k + n / 3))), some (.val d), some (.val (.tup [.int n, .int (p + k)])), some (.val (.int (n / 3))), some (.val (.int 2))] := by
                unfold b_law_led_l0
                unfold rowD at *
                rw [List.map_append]
                simp! [List.length_map, c, et, c0, c2, c1, g_slT, ec, lim]
              have ih := led_loop ds (p + k + n / 3) t (made ++ (bs.drop (p + k).toNat).take (n / 3).toNat) (some (.val d)) (some (.val (.tup [.int n, .int (p + k)]))) (some (.val (.int (n / 3)))) (some (.val (.int 2))) (by omega) (by omega) t0 t1 (by omega) (by rw [List.length_append]; omega)
              rw [e, es]
              exact ih
          · have hp : partF bs p = some (n % 3, n / 3, p + k) := by
              unfold partF; rw [hr]; simp only; rw [if_neg c2, Int.add_zero, if_neg (fun z => z.elim c0 (by omega))]
            have pk := part_facts h0 h1 hp
            have cl : n % 3 < 2 := by omega
            by_cases cm : (one.length : Int) < t + n / 3
            · have e : ledF one bs (ds.length + 1) p t made = .inr p := by rw [ledF, if_neg c, hp]; simp only; rw [if_neg c2, if_pos cm]
              refine ⟨fun out h => (by rw [e] at h; cases h), fun q h => ?_⟩
              rw [e] at h
              cases h
              unfold b_law_led_l0
              unfold rowD at *
              simp! [List.length_map, c, et, c0, c2, cl, cm]
              exact ⟨_, rfl⟩
            · by_cases ck : n % 3 = 0
              · have e : ledF one bs (ds.length + 1) p t made = ledF one bs ds.length (p + k) (t + n / 3) (made ++ (one.drop t.toNat).take (n / 3).toNat) := by
                  rw [ledF, if_neg c, hp]; simp only; rw [if_neg c2, if_neg cm, if_pos ck]
                have ec : Dn.cutD (one.map D.int) (some t) (some (t + n / 3)) = ((one.drop t.toNat).take (n / 3).toNat).map D.int := by
                  rw [cut_mid (by omega) (by omega)]; congr 3; omega
                have tl : ((one.drop t.toNat).take (n / 3).toNat).length ≤ (n / 3).toNat := take_len
                have lim : made.length + ((one.drop t.toNat).take (n / 3).toNat).length ≤ 16777216 := by omega
                have es : b_law_led_l0 A [some (.val (rowD one)), some (.val (rowD bs)), some (.val (rowD made)), some (.val (.int t)), some (.val (.int p)), some (.val d), x6, x7, x8] = .ok .nx [some (.val (rowD one)), some (.val (rowD bs)), some (.val (rowD (made ++ (one.drop t.toNat).take (n / 3).toNat))), some (.val (.int (t + n / 3))), some (.val (.int (p + k))), some (.val d), some (.val (.tup [.int n, .int (p + k)])), some (.val (.int (n / 3))), some (.val (.int 0))] := by
                  unfold b_law_led_l0
                  unfold rowD at *
                  rw [List.map_append]
                  simp! [List.length_map, c, et, c0, ck, cl, cm, g_slT, ec, lim]
                have ih := led_loop ds (p + k) (t + n / 3) (made ++ (one.drop t.toNat).take (n / 3).toNat) (some (.val d)) (some (.val (.tup [.int n, .int (p + k)]))) (some (.val (.int (n / 3)))) (some (.val (.int 0))) (by omega) (by omega) (by omega) (by omega) (by omega) (by rw [List.length_append]; omega)
                rw [e, es]
                exact ih
              · have e : ledF one bs (ds.length + 1) p t made = ledF one bs ds.length (p + k) (t + n / 3) made := by
                  rw [ledF, if_neg c, hp]; simp only; rw [if_neg c2, if_neg cm, if_neg ck]
                have es : b_law_led_l0 A [some (.val (rowD one)), some (.val (rowD bs)), some (.val (rowD made)), some (.val (.int t)), some (.val (.int p)), some (.val d), x6, x7, x8] = .ok .nx [some (.val (rowD one)), some (.val (rowD bs)), some (.val (rowD made)), some (.val (.int (t + n / 3))), some (.val (.int (p + k))), some (.val d), some (.val (.tup [.int n, .int (p + k)])), some (.val (.int (n / 3))), some (.val (.int (n % 3)))] := by
                  unfold b_law_led_l0
                  unfold rowD at *
                  simp! [List.length_map, c, et, c0, ck, c2, cl, cm]
                have ih := led_loop ds (p + k) (t + n / 3) made (some (.val d)) (some (.val (.tup [.int n, .int (p + k)]))) (some (.val (.int (n / 3)))) (some (.val (.int (n % 3)))) (by omega) (by omega) (by omega) (by omega) (by omega) (by omega)
                rw [e, es]
                exact ih
end
end
end Lw
namespace Lw
open PySem PySem.Spec PyProof.Rows L2 Dn
noncomputable section
/-- what the law makes of a row of parts, as the program does -/
def toldD : Sum (List Int) Int → D
  | .inl out => .tup [.str "told", rowD out]
  | .inr q => .tup [.str "BadChange", .int q]
theorem led_run {A : Ads} {one bs : List Int} {L : List D} {N : Int} {r : D} {en : En} (hN : N = (bs.length : Int)) (hr : ∀ en : En, rng1 [.int (N + 1)] en = .ok L en)
    (e : forD (asgN 5) (b_law_led_l0 A) L [some (.val (.tup (one.map D.int))), some (.val (.tup (bs.map D.int))), some (.val (.tup [])), some (.val (.int 0)), some (.val (.int 0)), none, none, none, none] = .ok (.rt (.val r)) (some (.val (.tup (one.map D.int))) :: some (.val (.tup (bs.map D.int))) :: en)) :
    d_law_led A [.val (.tup (one.map D.int)), .val (.tup (bs.map D.int))] = .ok (.val r) [some (.val (.tup (one.map D.int))), some (.val (.tup (bs.map D.int)))] := by
  unfold d_law_led
  rw [x_fn rfl]
  unfold b_law_led
  generalize b_law_led_l0 A = G at *
  generalize rng1 = R at *
  as_aux_lemma =>
    simp! [List.length_map, ← hN, hr, e]
theorem led_ok {A : Ads} {one bs : List Int} (lo : one.length ≤ 100000) (lb : bs.length ≤ 100000) : d_law_led A [.val (rowD one), .val (rowD bs)] = .ok (.val (toldD (ledF one bs (bs.length + 1) 0 0 []))) [some (.val (rowD one)), some (.val (rowD bs))] := by
  have lr : (bs.length : Int) + 1 ≤ 16777216 := by omega
  have lr0 : 0 ≤ (bs.length : Int) + 1 := by omega
  obtain ⟨L, li, hr⟩ : ∃ L : List D, L.length = bs.length + 1 ∧ ∀ en : En, rng1 [.int ((bs.length : Int) + 1)] en = .ok L en :=
    ⟨intsD 0 ((bs.length : Int) + 1), by unfold intsD; rw [List.length_map, List.length_range]; omega, fun en => x_rng1 lr lr0⟩
  have h := led_loop (A := A) lo lb L 0 0 [] none none none none (by omega) (by omega) (by omega) (by omega) (by rw [li]; omega) (by simp)
  rw [li] at h
  cases q : ledF one bs (bs.length + 1) 0 0 [] with
  | inl out =>
    obtain ⟨en, e⟩ := h.1 out q
    exact led_run rfl hr e
  | inr p =>
    obtain ⟨en, e⟩ := h.2 p q
    exact led_run rfl hr e
end
end Lw
namespace Lw
open PySem PySem.Spec PyProof.Rows L2 Dn
noncomputable section
theorem all_in {α : Type} : ∀ (ys : List α), (List.range ys.length).filterMap (fun k => ys[k]?) = ys
  | [] => rfl
  | y :: ys => by
    rw [List.length_cons, List.range_succ_eq_map, List.filterMap_cons_some (f := fun k => (y :: ys)[k]?) (b := y) rfl, List.filterMap_map]
    congr 1
    exact all_in ys
theorem fm_congr {α β : Type} {f g : α → Option β} : ∀ {l : List α}, (∀ x ∈ l, f x = g x) → l.filterMap f = l.filterMap g
  | [], _ => rfl
  | x :: l, h => by
    have e := h x List.mem_cons_self
    have r := fm_congr (f := f) (g := g) (l := l) fun y hy => h y (List.mem_cons_of_mem _ hy)
    cases q : g x with
    | none => rw [List.filterMap_cons_none (by rw [e, q]), List.filterMap_cons_none q, r]
    | some y => rw [List.filterMap_cons_some (by rw [e, q]), List.filterMap_cons_some q, r]
theorem step_rev {α : Type} (xs : List α) : Dn.stepL xs none none (-1) = xs.reverse := by
  unfold Dn.stepL
  have e1 : (Builtin.Slice.sliceAdjust none none (-1) (xs.length : Int)) = ((xs.length : Int) - 1, -1) := rfl
  rw [e1]
  have e2 : Builtin.Slice.slicePlaces ((xs.length : Int) - 1) (-1) (-1) = xs.length := by
    unfold Builtin.Slice.slicePlaces
    rw [if_neg (by omega)]
    split
    · rw [Int.neg_neg, Int.ediv_one]; omega
    · omega
  show (List.range (Builtin.Slice.slicePlaces ((xs.length : Int) - 1) (-1) (-1))).filterMap (fun (k : Nat) => xs[((xs.length : Int) - 1 + (k : Int) * (-1)).toNat]?) = xs.reverse
  rw [e2]
  have e3 := all_in xs.reverse
  rw [List.length_reverse] at e3
  rw [← e3]
  refine fm_congr fun k hk => ?_
  have hk : k < xs.length := List.mem_range.mp hk
  rw [List.getElem?_reverse hk]
  congr 1
  omega
theorem slP_rev {xs : List Int} : Dn.slP (-1) (.tup (xs.map D.int)) none none = some (.tup (xs.reverse.map D.int)) := by
  unfold Dn.slP
  simp only
  rw [step_rev, if_pos (by rw [List.length_reverse]; exact Nat.le_refl _), List.map_reverse]
/-- how many begin alike -/
def alike : List Int → List Int → Nat
  | x :: xs, y :: ys => if x = y then alike xs ys + 1 else 0
  | _, _ => 0
theorem alike_l : ∀ (xs ys : List Int), alike xs ys ≤ xs.length ∧ alike xs ys ≤ ys.length ∧ xs.take (alike xs ys) = ys.take (alike xs ys)
  | [], _ => by simp [alike]
  | _ :: _, [] => by simp [alike]
  | x :: xs, y :: ys => by
    obtain ⟨h1, h2, h3⟩ := alike_l xs ys
    unfold alike
    by_cases c : x = y
    · rw [if_pos c, List.length_cons, List.length_cons, List.take_succ_cons, List.take_succ_cons, h3, c]
      exact ⟨by omega, by omega, rfl⟩
    · rw [if_neg c]; exact ⟨by omega, by omega, rfl⟩
theorem alike_self : ∀ (xs : List Int), alike xs xs = xs.length
  | [] => rfl
  | x :: xs => by unfold alike; rw [if_pos rfl, alike_self xs]; rfl
theorem alike_loop {A : Ads} {one other : List Int} (lo : one.length ≤ 100000) (lb : other.length ≤ 100000) : ∀ (f k : Nat), k ≤ one.length → k ≤ other.length → one.length - k < f →
    whileD (andT (tstD (op2 ltI (slotA 2) (tA (opN (min2) (consA (tA (opN (on1 lenS) (consA (slotA 0) (nilA)))) (consA (tA (opN (on1 lenS) (consA (slotA 1) (nilA)))) (nilA))))))) (tstD (op2 eqA (tA (op2 ixG (slotA 0) (slotA 2))) (tA (op2 ixG (slotA 1) (slotA 2)))))) (b_many_alike_l0 A) f [some (.val (rowD one)), some (.val (rowD other)), some (.val (.int (k : Int)))] =
      .ok .nx [some (.val (rowD one)), some (.val (rowD other)), some (.val (.int ((k + alike (one.drop k) (other.drop k) : Nat) : Int)))]
  | 0, k => fun h1 h2 hf => absurd hf (by omega)
  | f + 1, k => fun h1 h2 hf => by
    rw [whileD]
    by_cases c1 : k < one.length
    · by_cases c2 : k < other.length
      · have g1 : one[k]? = some one[k] := List.getElem?_eq_getElem c1
        have g2 : other[k]? = some other[k] := List.getElem?_eq_getElem c2
        have d1 := List.drop_eq_getElem_cons c1
        have d2 := List.drop_eq_getElem_cons c2
        generalize one[k] = x at g1 d1
        generalize other[k] = y at g2 d2
        have m1 : (one.map D.int)[k]? = some (.int x) := by rw [List.getElem?_map, g1]; rfl
        have m2 : (other.map D.int)[k]? = some (.int y) := by rw [List.getElem?_map, g2]; rfl
        have a1 := x_at0 m1
        have a2 := x_at0 m2
        have lt : (k : Int) < (if (other.length : Int) < (one.length : Int) then (other.length : Int) else (one.length : Int)) := by split <;> omega
        by_cases cx : x = y
        · have al : alike (one.drop k) (other.drop k) = alike (one.drop (k + 1)) (other.drop (k + 1)) + 1 := by rw [d1, d2, alike, if_pos cx]
          have ih := alike_loop (A := A) (one := one) (other := other) lo lb f (k + 1) (by omega) (by omega) (by omega)
          have ek : (k : Int) + 1 = ((k + 1 : Nat) : Int) := by omega
          have ct : (andT (tstD (op2 ltI (slotA 2) (tA (opN (min2) (consA (tA (opN (on1 lenS) (consA (slotA 0) (nilA)))) (consA (tA (opN (on1 lenS) (consA (slotA 1) (nilA)))) (nilA))))))) (tstD (op2 eqA (tA (op2 ixG (slotA 0) (slotA 2))) (tA (op2 ixG (slotA 1) (slotA 2)))))) [some (.val (rowD one)), some (.val (rowD other)), some (.val (.int (k : Int)))] = .ok true [some (.val (rowD one)), some (.val (rowD other)), some (.val (.int (k : Int)))] := by
            unfold rowD
            simp! [List.length_map, g_min2, lt, a1, a2, cx]
          have es : b_many_alike_l0 A [some (.val (rowD one)), some (.val (rowD other)), some (.val (.int (k : Int)))] = .ok .nx [some (.val (rowD one)), some (.val (rowD other)), some (.val (.int ((k + 1 : Nat) : Int)))] := by
            unfold b_many_alike_l0
            simp! [ek]
          rw [ct, bind_ok, es, al]
          have e9 : k + (alike (one.drop (k + 1)) (other.drop (k + 1)) + 1) = k + 1 + alike (one.drop (k + 1)) (other.drop (k + 1)) := by omega
          rw [e9]
          exact ih
        · have al : alike (one.drop k) (other.drop k) = 0 := by rw [d1, d2, alike, if_neg cx]
          rw [al, Nat.add_zero]
          unfold rowD
          simp! [List.length_map, g_min2, lt, a1, a2, cx]
      · have e2 : other.drop k = [] := List.drop_of_length_le (by omega)
        have al : alike (one.drop k) (other.drop k) = 0 := by rw [e2]; cases one.drop k <;> rfl
        have lt : ¬ (k : Int) < (if (other.length : Int) < (one.length : Int) then (other.length : Int) else (one.length : Int)) := by split <;> omega
        rw [al, Nat.add_zero]
        unfold rowD
        simp! [List.length_map, g_min2, lt]
    · have e1 : one.drop k = [] := List.drop_of_length_le (by omega)
      have al : alike (one.drop k) (other.drop k) = 0 := by rw [e1]; rfl
      have lt : ¬ (k : Int) < (if (other.length : Int) < (one.length : Int) then (other.length : Int) else (one.length : Int)) := by split <;> omega
      rw [al, Nat.add_zero]
      unfold rowD
      simp! [List.length_map, g_min2, lt]
theorem alike_ok {A : Ads} {one other : List Int} (lo : one.length ≤ 100000) (lb : other.length ≤ 100000) : d_many_alike A [.val (rowD one), .val (rowD other)] = .ok (.val (.int (alike one other : Int))) [some (.val (rowD one)), some (.val (rowD other))] := by
  have e := alike_loop (A := A) lo lb (one.length + 1) 0 (by omega) (by omega) (by omega)
  rw [Nat.zero_add, List.drop_zero, List.drop_zero] at e
  have e4 := whileL_of _ e (by simp)
  clear e
  unfold d_many_alike
  rw [x_fn rfl]
  unfold b_many_alike
  generalize b_many_alike_l0 A = G at *
  have e5 : ((0 : Nat) : Int) = 0 := rfl
  rw [e5] at e4
  simp! [e4]
def partL (kd m : Int) : List Int := if 0 < m then figs 10 (3 * m + kd) else []
theorem part_ok {A : Ads} {kd m : Int} (k0 : 0 ≤ kd) (k1 : kd < 3) (m1 : m < 1000000) : d_part A [.val (.int kd), .val (.int m)] = .ok (.val (rowD (partL kd m))) [some (.val (.int kd)), some (.val (.int m))] := by
  unfold d_part
  rw [x_fn rfl]
  unfold b_part partL
  by_cases c : 0 < m
  · have e := whole_ok (A := A) (n := 3 * m + kd) (by omega) (by unfold W64; omega)
    rw [if_pos c]
    simp! [c, e]
  · rw [if_neg c]
    simp! [c]
    rfl
theorem partL_bytes {kd m : Int} (k0 : 0 ≤ kd) (k1 : kd < 3) (m1 : m < 1000000) : ∀ b ∈ partL kd m, Byte b := by
  unfold partL
  by_cases c : 0 < m
  · rw [if_pos c]; exact figs_bytes 10 _ (by omega) (by omega)
  · rw [if_neg c]; intro b hb; cases hb
theorem partL_len {kd m : Int} (k0 : 0 ≤ kd) (k1 : kd < 3) (m1 : m < 5000) : (partL kd m).length ≤ 2 := by
  unfold partL
  by_cases c : 0 < m
  · rw [if_pos c]
    by_cases h : 3 * m + kd < 128
    · rw [figs, if_pos h]; simp
    · rw [figs, if_neg h, figs, if_pos (by omega)]; simp
  · rw [if_neg c]; simp
end
end Lw
namespace Lw
open PySem PySem.Spec PyProof.Rows L2 Dn
noncomputable section
theorem partF_at {pre post : List Int} {kd m : Int} (k0 : 0 ≤ kd) (k1 : kd < 3) (m0 : 0 < m) (m1 : m < 1000000) (hp : kd = 2 → m ≤ post.length) :
    partF (pre ++ partL kd m ++ post) (pre.length : Int) = some (kd, m, ((pre ++ partL kd m).length : Int) + (if kd = 2 then m else 0)) := by
  unfold partL
  rw [if_pos m0]
  have r := rd_row (pre := pre) (post := post) (n := 3 * m + kd) (by omega) (by unfold W64; omega)
  unfold partF
  rw [r]
  simp only
  have e1 : (3 * m + kd) / 3 = m := by omega
  have e2 : (3 * m + kd) % 3 = kd := by omega
  rw [e1, e2]
  have e3 : (pre.length : Int) + ((figs 10 (3 * m + kd)).length : Int) = ((pre ++ figs 10 (3 * m + kd)).length : Int) := by rw [List.length_append]; omega
  rw [e3, if_neg]
  rintro (h | h)
  · omega
  · rw [List.length_append (as := pre ++ figs 10 (3 * m + kd))] at h
    by_cases c : kd = 2
    · rw [if_pos c] at h
      have := hp c
      omega
    · rw [if_neg c] at h
      omega
section
variable {one : List Int}
theorem led_keep {pre post : List Int} {kd m t : Int} {f : Nat} {made : List Int} (kk : kd = 0 ∨ kd = 1) (m0 : 0 ≤ m) (m1 : m < 1000000) (t0 : 0 ≤ t) (ht : t + m ≤ one.length) (hf : (partL kd m ++ post).length < f) :
    ∃ f', post.length < f' ∧ ledF one (pre ++ partL kd m ++ post) f (pre.length : Int) t made = ledF one (pre ++ partL kd m ++ post) f' ((pre ++ partL kd m).length : Int) (t + m) (if kd = 0 then made ++ (one.drop t.toNat).take m.toNat else made) := by
  by_cases c : 0 < m
  · have hq := partF_at (pre := pre) (post := post) (kd := kd) (m := m) (by omega) (by omega) c m1 (by omega)
    have hpl : 0 < (partL kd m).length := by
      unfold partL
      rw [if_pos c]
      unfold figs
      split <;> simp
    rw [List.length_append] at hf
    cases f with
    | zero => omega
    | succ f =>
      refine ⟨f, by omega, ?_⟩
      rw [ledF, if_neg (by rw [List.length_append, List.length_append]; omega), hq]
      simp only
      have k2 : ¬ kd = 2 := by omega
      rw [if_neg k2, if_neg k2, if_neg (by omega), Int.add_zero]
  · have e : m = 0 := by omega
    subst e
    have ep : partL kd 0 = [] := by unfold partL; rw [if_neg (by omega)]
    rw [ep, List.nil_append] at hf
    refine ⟨f, hf, ?_⟩
    rw [ep, List.append_nil, Int.add_zero]
    have : (one.drop t.toNat).take (0 : Int).toNat = [] := by simp
    rw [this, List.append_nil]
    split <;> rfl
theorem led_put {pre fresh post : List Int} {t : Int} {f : Nat} {made : List Int} (m1 : fresh.length < 1000000) (hf : (partL 2 fresh.length ++ fresh ++ post).length < f) :
    ∃ f', post.length < f' ∧ ledF one (pre ++ partL 2 fresh.length ++ (fresh ++ post)) f (pre.length : Int) t made = ledF one (pre ++ partL 2 fresh.length ++ (fresh ++ post)) f' ((pre ++ partL 2 fresh.length ++ fresh).length : Int) t (made ++ fresh) := by
  by_cases c : (0 : Int) < fresh.length
  · have hq := partF_at (pre := pre) (post := fresh ++ post) (kd := 2) (m := fresh.length) (by omega) (by omega) c (by omega) (fun _ => by rw [List.length_append]; omega)
    have hpl : 0 < (partL 2 fresh.length).length := by
      unfold partL
      rw [if_pos c]
      unfold figs
      split <;> simp
    rw [List.length_append, List.length_append] at hf
    cases f with
    | zero => omega
    | succ f =>
      refine ⟨f, by omega, ?_⟩
      rw [ledF, if_neg (by rw [List.length_append, List.length_append, List.length_append]; omega), hq]
      simp only [if_true]
      have e1 : (((pre ++ partL 2 fresh.length).length : Int) + (fresh.length : Int) - (fresh.length : Int)).toNat = (pre ++ partL 2 fresh.length).length := by omega
      have e2 : ((pre ++ partL 2 fresh.length ++ (fresh ++ post)).drop (pre ++ partL 2 fresh.length).length).take (fresh.length : Int).toNat = fresh := by
        rw [List.drop_left, Int.toNat_natCast, List.take_left]
      rw [e1, e2]
      congr 1
      rw [List.length_append (as := pre ++ partL 2 fresh.length)]
      omega
  · have e : fresh = [] := List.length_eq_zero_iff.mp (by omega)
    subst e
    have ep : partL 2 ((([] : List Int).length : Nat) : Int) = [] := rfl
    rw [ep] at hf ⊢
    rw [List.nil_append, List.nil_append] at hf
    refine ⟨f, hf, ?_⟩
    rw [List.append_nil, List.append_nil, List.append_nil]
theorem led_end {bs : List Int} {f : Nat} {t : Int} {made : List Int} (hf : 0 < f) : ledF one bs f (bs.length : Int) t made = .inl made := by
  cases f with
  | zero => omega
  | succ f => rw [ledF, if_pos rfl]
end
/-- what change tells -/
def chB (one other : List Int) : Nat := alike one other
def chE (one other : List Int) : Nat := alike (one.drop (chB one other)).reverse (other.drop (chB one other)).reverse
def chF (one other : List Int) : List Int := (other.drop (chB one other)).take (other.length - chE one other - chB one other)
def chL (one other : List Int) : List Int := if 0 < chE one other then partL 1 ((one.length : Int) - chB one other - chE one other) else []
def changeL (one other : List Int) : List Int := partL 0 (chB one other) ++ chL one other ++ partL 2 (chF one other).length ++ chF one other ++ partL 0 (chE one other)
theorem ch_facts (one other : List Int) : chB one other + chE one other ≤ one.length ∧ chB one other + chE one other ≤ other.length ∧ one.take (chB one other) = other.take (chB one other) ∧
    one.drop (one.length - chE one other) = other.drop (other.length - chE one other) ∧ (chF one other).length = other.length - chE one other - chB one other := by
  obtain ⟨h1, h2, h3⟩ := alike_l one other
  obtain ⟨g1, g2, g3⟩ := alike_l (one.drop (chB one other)).reverse (other.drop (chB one other)).reverse
  have h1 : chB one other ≤ one.length := h1
  have h2 : chB one other ≤ other.length := h2
  have g1 : chE one other ≤ (one.drop (chB one other)).reverse.length := g1
  have g2 : chE one other ≤ (other.drop (chB one other)).reverse.length := g2
  have g3 : (one.drop (chB one other)).reverse.take (chE one other) = (other.drop (chB one other)).reverse.take (chE one other) := g3
  rw [List.length_reverse, List.length_drop] at g1 g2
  refine ⟨by omega, by omega, h3, ?_, ?_⟩
  · rw [List.take_reverse, List.take_reverse, List.length_drop, List.length_drop] at g3
    have g4 := List.reverse_inj.mp g3
    rw [List.drop_drop, List.drop_drop] at g4
    have e1 : chB one other + (one.length - chB one other - chE one other) = one.length - chE one other := by omega
    have e2 : chB one other + (other.length - chB one other - chE one other) = other.length - chE one other := by omega
    rw [e1, e2] at g4
    exact g4
  · unfold chF
    rw [List.length_take, List.length_drop]
    omega
theorem ch_join (one other : List Int) : one.take (chB one other) ++ chF one other ++ one.drop (one.length - chE one other) = other := by
  obtain ⟨b1, b2, ht, hd, hl⟩ := ch_facts one other
  rw [ht, hd]
  unfold chF
  have e1 : other.drop (other.length - chE one other) = (other.drop (chB one other)).drop (other.length - chE one other - chB one other) := by
    rw [List.drop_drop]; congr 1; omega
  rw [e1, List.append_assoc, List.take_append_drop, List.take_append_drop]
theorem change_led {one other : List Int} (lo : one.length ≤ 100000) (lb : other.length ≤ 100000) : ledF one (changeL one other) ((changeL one other).length + 1) 0 0 [] = .inl other := by
  obtain ⟨b1, b2, ht, hd, hl⟩ := ch_facts one other
  have hj := ch_join one other
  obtain ⟨bs, hbs⟩ : ∃ bs, bs = changeL one other := ⟨_, rfl⟩
  rw [← hbs]
  unfold changeL at hbs
  obtain ⟨L, hL⟩ : ∃ L, L = chL one other := ⟨_, rfl⟩
  rw [← hL] at hbs
  unfold chL at hL
  generalize chB one other = b at *
  generalize chE one other = e at *
  generalize chF one other = F at *
  have h1 : bs = [] ++ partL 0 b ++ (L ++ (partL 2 F.length ++ (F ++ partL 0 e))) := by rw [hbs]; simp only [List.append_assoc, List.nil_append]
  obtain ⟨f1, g1, e1⟩ := led_keep (one := one) (pre := []) (post := L ++ (partL 2 F.length ++ (F ++ partL 0 e))) (kd := 0) (m := b) (t := 0) (f := bs.length + 1) (made := []) (.inl rfl) (by omega) (by omega) (by omega) (by omega) (by rw [h1, List.nil_append]; omega)
  rw [← h1] at e1
  have z0 : ((([] : List Int).length : Nat) : Int) = 0 := rfl
  rw [z0, if_pos rfl] at e1
  have z1 : ([] : List Int) ++ (one.drop (0 : Int).toNat).take (b : Int).toNat = one.take b := by simp
  rw [z1, List.nil_append, Int.zero_add] at e1
  rw [e1]
  -- what is left out
  have h2 : ∃ (f2 : Nat) (t2 : Int), (partL 2 F.length ++ (F ++ partL 0 e)).length < f2 ∧ 0 ≤ t2 ∧ t2 + e ≤ one.length ∧ (0 < e → t2 = (one.length : Int) - e) ∧ ledF one bs f1 ((partL 0 b).length : Int) b (one.take b) = ledF one bs f2 ((partL 0 b ++ L).length : Int) t2 (one.take b) := by
    by_cases c : 0 < e
    · rw [if_pos c] at hL
      have h2 : bs = partL 0 b ++ partL 1 ((one.length : Int) - b - e) ++ (partL 2 F.length ++ (F ++ partL 0 e)) := by rw [h1, hL]; simp only [List.append_assoc, List.nil_append]
      obtain ⟨f2, g2, e2⟩ := led_keep (one := one) (pre := partL 0 b) (post := partL 2 F.length ++ (F ++ partL 0 e)) (kd := 1) (m := (one.length : Int) - b - e) (t := b) (f := f1) (made := one.take b) (.inr rfl) (by omega) (by omega) (by omega) (by omega) (by rw [← hL]; exact g1)
      rw [← h2, if_neg (by omega), ← hL] at e2
      exact ⟨f2, _, g2, by omega, by omega, fun _ => by omega, e2⟩
    · rw [if_neg c] at hL
      subst hL
      rw [List.append_nil]
      exact ⟨f1, b, by simpa using g1, by omega, by omega, fun h => absurd h c, rfl⟩
  obtain ⟨f2, t2, g2, t0, t1, te, e2⟩ := h2
  rw [e2]
  have h3 : bs = partL 0 b ++ L ++ partL 2 F.length ++ (F ++ partL 0 e) := by rw [h1]; simp only [List.append_assoc, List.nil_append]
  obtain ⟨f3, g3, e3⟩ := led_put (one := one) (pre := partL 0 b ++ L) (fresh := F) (post := partL 0 e) (t := t2) (f := f2) (made := one.take b) (by omega) (by rw [List.append_assoc]; exact g2)
  rw [← h3] at e3
  rw [e3]
  have h4 : bs = (partL 0 b ++ L ++ partL 2 F.length ++ F) ++ partL 0 e ++ [] := by rw [h1]; simp only [List.append_assoc, List.nil_append, List.append_nil]
  obtain ⟨f4, g4, e4⟩ := led_keep (one := one) (pre := partL 0 b ++ L ++ partL 2 F.length ++ F) (post := []) (kd := 0) (m := e) (t := t2) (f := f3) (made := one.take b ++ F) (.inl rfl) (by omega) (by omega) (by omega) (by omega) (by rw [List.append_nil]; exact g3)
  rw [← h4, if_pos rfl] at e4
  rw [e4]
  have h5 : (partL 0 b ++ L ++ partL 2 F.length ++ F) ++ partL 0 e = bs := by rw [h4, List.append_nil]
  rw [h5, led_end (by omega)]
  congr 1
  rw [← hj]
  congr 1
  rw [Int.toNat_natCast]
  by_cases c : 0 < e
  · have := te c
    have e5 : t2.toNat = one.length - e := by omega
    rw [e5]
    exact List.take_of_length_le (by rw [List.length_drop]; omega)
  · have e5 : e = 0 := by omega
    subst e5
    rw [List.take_zero, Nat.sub_zero, List.drop_length]
theorem changeL_bytes {one other : List Int} (lo : one.length ≤ 100000) (lb : other.length ≤ 100000) (b2 : ∀ b ∈ other, Byte b) : ∀ b ∈ changeL one other, Byte b := by
  obtain ⟨c1, c2, ht, hd, hl⟩ := ch_facts one other
  have h1 := partL_bytes (kd := 0) (m := chB one other) (by omega) (by omega) (by omega)
  have h2 := partL_bytes (kd := 1) (m := (one.length : Int) - chB one other - chE one other) (by omega) (by omega) (by omega)
  have h3 := partL_bytes (kd := 2) (m := (chF one other).length) (by omega) (by omega) (by omega)
  have h4 := partL_bytes (kd := 0) (m := chE one other) (by omega) (by omega) (by omega)
  intro b hb
  unfold changeL at hb
  rcases List.mem_append.mp hb with hb | hb
  · rcases List.mem_append.mp hb with hb | hb
    · rcases List.mem_append.mp hb with hb | hb
      · rcases List.mem_append.mp hb with hb | hb
        · exact h1 b hb
        · unfold chL at hb
          by_cases c : 0 < chE one other
          · rw [if_pos c] at hb; exact h2 b hb
          · rw [if_neg c] at hb; cases hb
      · exact h3 b hb
    · unfold chF at hb
      exact b2 b (List.mem_of_mem_drop (List.mem_of_mem_take hb))
  · exact h4 b hb
theorem changeL_len {one other : List Int} (lo : one.length < 5000) (lb : other.length < 5000) : (changeL one other).length ≤ other.length + 8 ∧ (one = other → (changeL one other).length ≤ 8) := by
  obtain ⟨c1, c2, ht, hd, hl⟩ := ch_facts one other
  have h1 := partL_len (kd := 0) (m := chB one other) (by omega) (by omega) (by omega)
  have h2 := partL_len (kd := 1) (m := (one.length : Int) - chB one other - chE one other) (by omega) (by omega) (by omega)
  have h3 := partL_len (kd := 2) (m := (chF one other).length) (by omega) (by omega) (by omega)
  have h4 := partL_len (kd := 0) (m := chE one other) (by omega) (by omega) (by omega)
  have h5 : (chL one other).length ≤ 2 := by
    unfold chL
    by_cases c : 0 < chE one other
    · rw [if_pos c]; exact h2
    · rw [if_neg c]; simp
  have hc : (changeL one other).length ≤ (chF one other).length + 8 := by
    unfold changeL
    simp only [List.length_append]
    omega
  refine ⟨by omega, fun e => ?_⟩
  have hb : chB one other = other.length := by unfold chB; rw [e, alike_self]
  omega
end
end Lw
namespace Lw
open PySem PySem.Spec PyProof.Rows L2 Dn
noncomputable section
theorem cut_toA {xs : List D} {n : Int} (h0 : 0 ≤ n) : Dn.cutD xs none (some n) = xs.take n.toNat := by
  unfold Dn.cutD
  have e1 : HT.sIx xs.length 0 none = 0 := rfl
  have e2 : HT.sIx xs.length xs.length (some n) = min n.toNat xs.length := by
    unfold HT.sIx
    simp only
    split <;> omega
  rw [e1, e2, List.drop_zero, Nat.sub_zero]
  by_cases h : n.toNat ≤ xs.length
  · rw [Nat.min_eq_left h]
  · rw [Nat.min_eq_right (by omega), List.take_of_length_le (Nat.le_refl _), List.take_of_length_le (by omega)]
theorem cut_fromA {xs : List D} {n : Int} (h0 : 0 ≤ n) : Dn.cutD xs (some n) none = xs.drop n.toNat := by
  unfold Dn.cutD
  have e1 : HT.sIx xs.length xs.length none = xs.length := rfl
  have e2 : HT.sIx xs.length 0 (some n) = min n.toNat xs.length := by
    unfold HT.sIx
    simp only
    split <;> omega
  rw [e1, e2]
  by_cases h : n.toNat ≤ xs.length
  · rw [Nat.min_eq_left h]
    exact List.take_of_length_le (by rw [List.length_drop]; omega)
  · rw [Nat.min_eq_right (by omega), List.drop_of_length_le (by omega), List.drop_of_length_le (by omega)]
    simp
theorem cut_headN {xs : List D} {k : Nat} (hk : 0 < k) : Dn.cutD xs none (some (-(k : Int))) = xs.take (xs.length - k) := by
  unfold Dn.cutD
  have e1 : HT.sIx xs.length 0 none = 0 := rfl
  have e2 : HT.sIx xs.length xs.length (some (-(k : Int))) = xs.length - k := by
    unfold HT.sIx
    simp only
    split <;> omega
  rw [e1, e2, List.drop_zero, Nat.sub_zero]
theorem cut_tailN {xs : List D} {k : Nat} (hk : 0 < k) : Dn.cutD xs (some (-(k : Int))) none = xs.drop (xs.length - k) := by
  unfold Dn.cutD
  have e1 : HT.sIx xs.length xs.length none = xs.length := rfl
  have e2 : HT.sIx xs.length 0 (some (-(k : Int))) = xs.length - k := by
    unfold HT.sIx
    simp only
    split <;> omega
  rw [e1, e2]
  exact List.take_of_length_le (by rw [List.length_drop]; omega)
theorem cut_h4 {xs : List D} : Dn.cutD xs none (some (-4)) = xs.take (xs.length - 4) := cut_headN (k := 4) (by omega)
theorem cut_t4 {xs : List D} : Dn.cutD xs (some (-4)) none = xs.drop (xs.length - 4) := cut_tailN (k := 4) (by omega)
theorem cut_h1 {xs : List D} : Dn.cutD xs none (some (-1)) = xs.take (xs.length - 1) := cut_headN (k := 1) (by omega)
theorem cut_fromI {xs : List Int} {n : Nat} : Dn.cutD (xs.map D.int) (some (n : Int)) none = (xs.drop n).map D.int := by
  rw [cut_fromA (by omega), Int.toNat_natCast, ← List.map_drop]
theorem change_run {A : Ads} {r1 r2 f1 f2 : D} {o1 o2 ds1 ds2 fr : List D} {b e n1 n2 nf : Int} {p0 p1 p2 p3 : List D} (q1 : r1 = .tup o1) (q2 : r2 = .tup o2) (l1 : (o1.length : Int) = n1) (l2 : (o2.length : Int) = n2)
    (ck : d_check_rows A [.val (.tup [r1, r2])] = .ok (.val .non) [some (.val (.tup [r1, r2]))])
    (ha : d_many_alike A [.val r1, .val r2] = .ok (.val (.int b)) [some (.val r1), some (.val r2)])
    (c1 : slA r1 (some b) none = some f1) (c2 : slA r2 (some b) none = some f2) (s1 : Dn.slP (-1) f1 none none = some (.tup ds1)) (s2 : Dn.slP (-1) f2 none none = some (.tup ds2))
    (hb : d_many_alike A [.val (.tup ds1), .val (.tup ds2)] = .ok (.val (.int e)) [some (.val (.tup ds1)), some (.val (.tup ds2))])
    (c3 : slA r2 (some b) (some (n2 - e)) = some (.tup fr)) (l3 : (fr.length : Int) = nf)
    (k0 : d_part A [.val (.int 0), .val (.int b)] = .ok (.val (.tup p0)) [some (.val (.int 0)), some (.val (.int b))])
    (k1 : d_part A [.val (.int 1), .val (.int (n1 - b - e))] = .ok (.val (.tup p1)) [some (.val (.int 1)), some (.val (.int (n1 - b - e)))])
    (k2 : d_part A [.val (.int 2), .val (.int nf)] = .ok (.val (.tup p2)) [some (.val (.int 2)), some (.val (.int nf))])
    (k3 : d_part A [.val (.int 0), .val (.int e)] = .ok (.val (.tup p3)) [some (.val (.int 0)), some (.val (.int e))])
    (z1 : p0.length + p1.length ≤ 16777216) (z2 : (p0 ++ (if 0 < e then p1 else [])).length + p2.length ≤ 16777216) (z3 : (p0 ++ (if 0 < e then p1 else []) ++ p2).length + fr.length ≤ 16777216) (z4 : (p0 ++ (if 0 < e then p1 else []) ++ p2 ++ fr).length + p3.length ≤ 16777216) :
    d_change A [.val r1, .val r2] = .ok (.val (.tup (p0 ++ (if 0 < e then p1 else []) ++ p2 ++ fr ++ p3))) [some (.val r1), some (.val r2)] := by
  subst q1
  subst q2
  unfold d_change
  rw [x_fn rfl]
  unfold b_change
  generalize d_check_rows A = F1 at *
  generalize d_many_alike A = F2 at *
  generalize d_part A = F3 at *
  by_cases c : 0 < e
  · rw [if_pos c] at *
    as_aux_lemma =>
      simp! [ck, ha, c1, c2, s1, s2, hb, l1, l2, l3, c3, k0, k1, k2, k3, c, g_augT, z1, z2, z3, z4]
  · rw [if_neg c] at *
    rw [List.append_nil] at *
    as_aux_lemma =>
      simp! [ck, ha, c1, c2, s1, s2, hb, l1, l2, l3, c3, k0, k2, k3, c, z2, z3, z4]
theorem change_ok {A : Ads} {one other : List Int} (lo : one.length ≤ 100000) (lb : other.length ≤ 100000) (b1 : ∀ b ∈ one, Byte b) (b2 : ∀ b ∈ other, Byte b) : d_change A [.val (rowD one), .val (rowD other)] = .ok (.val (rowD (changeL one other))) [some (.val (rowD one)), some (.val (rowD other))] := by
  obtain ⟨c1, c2, ht, hd, hl⟩ := ch_facts one other
  have ck := rows_ok (A := A) (one := one) (bs := other) (by omega) b1 (by omega) b2
  have ha := alike_ok (A := A) (one := one) (other := other) lo lb
  have hb := alike_ok (A := A) (one := (one.drop (chB one other)).reverse) (other := (other.drop (chB one other)).reverse) (by rw [List.length_reverse, List.length_drop]; omega) (by rw [List.length_reverse, List.length_drop]; omega)
  have k0 := part_ok (A := A) (kd := 0) (m := chB one other) (by omega) (by omega) (by omega)
  have k1 := part_ok (A := A) (kd := 1) (m := (one.length : Int) - chB one other - chE one other) (by omega) (by omega) (by omega)
  have k2 := part_ok (A := A) (kd := 2) (m := (chF one other).length) (by omega) (by omega) (by omega)
  have k3 := part_ok (A := A) (kd := 0) (m := chE one other) (by omega) (by omega) (by omega)
  have ec : Dn.cutD (other.map D.int) (some (chB one other : Int)) (some ((other.length : Int) - chE one other)) = (chF one other).map D.int := by
    rw [cut_mid (by omega) (by omega)]
    unfold chF
    congr 2
    · omega
  have w : ∀ kd m : Int, 0 ≤ kd → kd < 3 → m < 1000000 → (partL kd m).length ≤ 11 := fun kd m _ _ _ => by
    unfold partL
    split
    · exact figs_len 10 _
    · simp
  have w0 := w 0 (chB one other) (by omega) (by omega) (by omega)
  have w1 := w 1 ((one.length : Int) - chB one other - chE one other) (by omega) (by omega) (by omega)
  have w2 := w 2 (chF one other).length (by omega) (by omega) (by omega)
  have w3 := w 0 (chE one other) (by omega) (by omega) (by omega)
  have hr := change_run (A := A) (o1 := one.map D.int) (o2 := other.map D.int) (b := (chB one other : Int)) (e := (chE one other : Int)) (n1 := one.length) (n2 := other.length) (nf := (chF one other).length) (fr := (chF one other).map D.int)
    rfl rfl (by rw [List.length_map]) (by rw [List.length_map]) ck ha (by rw [g_slT, cut_fromI]) (by rw [g_slT, cut_fromI]) slP_rev slP_rev hb (by rw [g_slT, ec]) (by rw [List.length_map]) k0 k1 k2 k3
  have ei : (if (0 : Int) < (chE one other : Int) then (partL 1 ((one.length : Int) - chB one other - chE one other)).map D.int else []) = (chL one other).map D.int := by
    unfold chL
    by_cases c : 0 < chE one other
    · rw [if_pos c, if_pos (by omega)]
    · rw [if_neg c, if_neg (by omega)]; rfl
  have wl : (chL one other).length ≤ 11 := by
    unfold chL
    split
    · exact w1
    · simp
  rw [ei] at hr
  have hr := hr (by simp only [List.length_map]; omega) (by simp only [List.length_map, List.length_append]; omega) (by simp only [List.length_map, List.length_append]; omega) (by simp only [List.length_map, List.length_append]; omega)
  unfold changeL
  unfold rowD at *
  rw [hr, List.map_append, List.map_append, List.map_append, List.map_append]
end
end Lw
namespace Lw
open PySem PySem.Spec PyProof.Rows L2 Dn
noncomputable section
section
variable {A : Ads}
theorem changed_no {d e : D} (hd : Pn d) (he : Pn e) (h : isRow d = false ∨ isRow e = false) : d_changed A [.val d, .val e] = .ex A.NoRow none [some (.val d), some (.val e)] := by
  have ck := check_no (A := A) hd he h
  unfold d_changed
  rw [x_fn rfl]
  unfold b_changed
  simp! [ck]
theorem change_no {d e : D} (hd : Pn d) (he : Pn e) (h : isRow d = false ∨ isRow e = false) : d_change A [.val d, .val e] = .ex A.NoRow none [some (.val d), some (.val e)] := by
  have ck := check_no (A := A) hd he h
  unfold d_change
  rw [x_fn rfl]
  unfold b_change
  simp! [ck]
theorem isch_no {d e t : D} (hd : Pn d) (he : Pn e) (h : isRow d = false ∨ isRow e = false) : d_is_change A [.val d, .val e, .val t] = .ex A.NoRow none [some (.val d), some (.val e), some (.val t)] := by
  have ck := check_no (A := A) hd he h
  unfold d_is_change
  rw [x_fn rfl]
  unfold b_is_change
  simp! [ck]
variable (dd : Dist A)
include dd
theorem clN : clsT (ct_NoRow A) A.NoRow = some true := by
  have h1 := dd.d_BadChange_NoRow
  have h2 := dd.d_BadRow_NoRow
  have h3 := dd.d_NoNumber_NoRow
  simp [clsT, ct_NoRow, List.lookup, beq_eq_false_iff_ne.mpr h1.symm, beq_eq_false_iff_ne.mpr h2.symm, beq_eq_false_iff_ne.mpr h3.symm]
theorem clNC : clsT (ct_NoRow A) A.BadChange = some false := by simp [clsT, ct_NoRow, List.lookup]
theorem clC : clsT (ct_BadChange A) A.BadChange = some true := by simp [clsT, ct_BadChange, List.lookup]
theorem clCN : clsT (ct_BadChange A) A.NoRow = some false := by
  have h1 := dd.d_BadChange_NoRow
  have h2 := dd.d_BadRow_NoRow
  have h3 := dd.d_NoNumber_NoRow
  simp [clsT, ct_BadChange, List.lookup, beq_eq_false_iff_ne.mpr h1.symm, beq_eq_false_iff_ne.mpr h2.symm, beq_eq_false_iff_ne.mpr h3.symm]
theorem cl2N : clsT2 (ct_NoRow A) (ct_BadChange A) A.NoRow = some true := by
  unfold clsT2
  rw [clN dd, clCN dd]; rfl
theorem cl2C : clsT2 (ct_NoRow A) (ct_BadChange A) A.BadChange = some true := by
  unfold clsT2
  rw [clNC dd, clC dd]; rfl
theorem isch_odd {d e t : D} (hd : Pn d) (he : Pn e) (h1 : isRow d = true) (h2 : isRow e = true) (ht : Pn t) (h : isRow t = false) : d_is_change A [.val d, .val e, .val t] = .ok (.val (.bl false)) [some (.val d), some (.val e), some (.val t)] := by
  have ck := check_ok (A := A) hd he h1 h2
  have cn := changed_no (A := A) hd ht (.inr h)
  unfold d_is_change
  rw [x_fn rfl]
  unfold b_is_change
  simp! [ck, cn, hdl, cl2N dd]
theorem told_no {d e : D} (hd : Pn d) (he : Pn e) (h : isRow d = false ∨ isRow e = false) : d_law_told A [.val d, .val e] = .ok (.val (.tup [.str "NoRow"])) [some (.val d), some (.val e)] := by
  have cn := changed_no (A := A) hd he h
  unfold d_law_told
  rw [x_fn rfl]
  unfold b_law_told
  simp! [cn, hdlX, clN dd, plainC]
theorem refused_ok {d e : D} (hd : Pn d) (he : Pn e) (h : isRow d = false ∨ isRow e = false) : d_law_refused A [.val d, .val e] = .ok (.val (.bl true)) [some (.val d), some (.val e)] := by
  have cn := change_no (A := A) hd he h
  have ci := isch_no (A := A) (t := .tup []) hd he h
  unfold d_law_refused
  rw [x_fn rfl]
  unfold b_law_refused
  simp! [cn, ci, hdl, clN dd]
theorem h_place {q : Int} : b_law_told_h0 A ["place"] [.int q] = some [.str "BadChange", .int q] := by rfl
section
variable {one bs : List Int} (lo : one.length ≤ 100000) (lb : bs.length ≤ 100000) (b1 : ∀ b ∈ one, Byte b) (b2 : ∀ b ∈ bs, Byte b)
include lo lb b1 b2
theorem told_ok : d_law_told A [.val (rowD one), .val (rowD bs)] = .ok (.val (toldD (ledF one bs (bs.length + 1) 0 0 []))) [some (.val (rowD one)), some (.val (rowD bs))] := by
  unfold d_law_told
  rw [x_fn rfl]
  unfold b_law_told
  cases q : ledF one bs (bs.length + 1) 0 0 [] with
  | inl out =>
    have e := (changed_told dd lo lb b1 b2 q).2
    clear q lo lb
    simp! [e]
    rfl
  | inr p =>
    have e := changed_bad dd lo lb b1 b2 q
    have hp := h_place dd (q := p)
    clear q lo lb
    simp! [e, hdlX, clNC dd, clC dd, fieldC, hp]
    rfl
theorem isch_ok {other : List Int} (l3 : other.length ≤ 100000) (b3 : ∀ b ∈ other, Byte b) : d_is_change A [.val (rowD one), .val (rowD other), .val (rowD bs)] = .ok (.val (.bl (decide (ledF one bs (bs.length + 1) 0 0 [] = .inl other)))) [some (.val (rowD one)), some (.val (rowD other)), some (.val (rowD bs))] := by
  have ck := rows_ok (A := A) (one := one) (bs := other) (by omega) b1 (by omega) b3
  unfold d_is_change
  rw [x_fn rfl]
  unfold b_is_change
  cases q : ledF one bs (bs.length + 1) 0 0 [] with
  | inl out =>
    have e := (changed_told dd lo lb b1 b2 q).2
    have ee : eqA (rowD out) (rowD other) = some (.bl (decide (out = other))) := eq_ints out other
    have es : decide ((Sum.inl out : Sum (List Int) Int) = .inl other) = decide (out = other) := by
      by_cases c : out = other
      · rw [c]; simp
      · simp [c]
    rw [es]
    clear q lo lb l3 es
    simp! [ck, e, ee]
  | inr p =>
    have e := changed_bad dd lo lb b1 b2 q
    have es : decide ((Sum.inr p : Sum (List Int) Int) = .inl other) = false := by simp
    rw [es]
    clear q lo lb l3 es
    simp! [ck, e, hdl, cl2C dd]
end
end
end
end Lw
namespace Lw
open PySem PySem.Spec PyProof.Rows L2 Dn
noncomputable section
/-- a comprehension over a range whose items draw -/
theorem comp_draw {asg : D → En → Option En} {f : En → Out D} {vs : List Nat} {R : En → Prop} {T : D → Prop} : ∀ (ds : List D) (acc : List D) (en : En), R (wipeE en vs) → (∀ d ∈ ds, ∀ en, R en → ∃ en1 en3 y, asg d en = some en1 ∧ en1 ≠ [] ∧ f en1 = .ok y en3 ∧ T y ∧ R (wipeE en3 vs)) →
    ∃ ys en', compD asg yesD f vs ds acc en = .ok (acc ++ ys) en' ∧ ys.length = ds.length ∧ (∀ y ∈ ys, T y) ∧ R (wipeE en' vs)
  | [], acc, en, h, _ => ⟨[], en, by simp [compD], rfl, by simp, h⟩
  | d :: ds, acc, en, h, st => by
    obtain ⟨en1, en3, y, e1, ne, e2, ty, h3⟩ := st d List.mem_cons_self _ h
    obtain ⟨ys, en', e, l, ty', h'⟩ := comp_draw ds (acc ++ [y]) en3 h3 fun d hd => st d (List.mem_cons_of_mem _ hd)
    refine ⟨y :: ys, en', ?_, by rw [List.length_cons, List.length_cons, l], fun z hz => ?_, h'⟩
    · have e0 : yesD en1 = .ok true en1 := rfl
      simp only [compD, e1, e0, e2, e, List.append_assoc, List.cons_append, List.nil_append]
    · rcases List.mem_cons.mp hz with rfl | hz
      · exact ty
      · exact ty' z hz
theorem ints_of {ys : List D} {T : Int → Prop} (h : ∀ y ∈ ys, ∃ n, y = .int n ∧ T n) : ∃ ns : List Int, ys = ns.map .int ∧ ∀ n ∈ ns, T n := by
  induction ys with
  | nil => exact ⟨[], rfl, by simp⟩
  | cons y ys ih =>
    obtain ⟨n, rfl, hn⟩ := h y List.mem_cons_self
    obtain ⟨ns, rfl, hs⟩ := ih fun z hz => h z (List.mem_cons_of_mem _ hz)
    exact ⟨n :: ns, rfl, fun m hm => (List.mem_cons.mp hm).elim (fun q => by rw [q]; exact hn) (hs m)⟩
theorem ints_len {j : Int} : (intsD 0 j).length = j.toNat := by unfold intsD; simp
def comE (A : Ads) (h : D) (one found : List Int) (x3 : Option O) (w m : Int) (x7 : Option O) : En := [some (.fl h), some (.val (rowD one)), some (.val (rowD found)), x3, some (.val (.int w)), some (.val (.int m)), none, x7]
theorem parts_comp {A : Ads} {h : D} {one found : List Int} {x3 x6 x7 : Option O} {w m j : Int} (hh : IsHand h) : ∃ (h' : D) (ns : List Int) (en' : En), IsHand h' ∧ (∀ n ∈ ns, Byte n) ∧ ns.length = j.toNat ∧
    compD (asgN 6) yesD (b_law_parts_e0 A) [6] (intsD 0 j) [] [some (.fl h), some (.val (rowD one)), some (.val (rowD found)), x3, some (.val (.int w)), some (.val (.int m)), x6, x7] = .ok (ns.map D.int) en' ∧ wipeE en' [6] = [some (.fl h'), some (.val (rowD one)), some (.val (rowD found)), x3, some (.val (.int w)), some (.val (.int m)), none, x7] := by
  obtain ⟨ys, en', e3, yl, yt, h1, hh1, ew⟩ := comp_draw (asg := asgN 6) (f := b_law_parts_e0 A) (vs := [6]) (R := fun en => ∃ h', IsHand h' ∧ en = [some (.fl h'), some (.val (rowD one)), some (.val (rowD found)), x3, some (.val (.int w)), some (.val (.int m)), none, x7]) (T := fun y => ∃ n : Int, y = .int n ∧ Byte n)
    (intsD 0 j) [] [some (.fl h), some (.val (rowD one)), some (.val (rowD found)), x3, some (.val (.int w)), some (.val (.int m)), x6, x7] ⟨h, hh, rfl⟩ (by
      rintro d hd en ⟨h', hh', rfl⟩
      obtain ⟨r3, h3, r30, r31, hh3, e3⟩ := take_is (A := A) (m := 256) hh' (by omega) (by omega)
      refine ⟨_, [some (.fl h3), some (.val (rowD one)), some (.val (rowD found)), x3, some (.val (.int w)), some (.val (.int m)), some (.val d), x7], .int r3, rfl, by simp, ?_, ⟨r3, rfl, r30, r31⟩, h3, hh3, rfl⟩
      show b_law_parts_e0 A [some (.fl h'), some (.val (rowD one)), some (.val (rowD found)), x3, some (.val (.int w)), some (.val (.int m)), some (.val d), x7] = _
      unfold b_law_parts_e0
      simp! [e3])
  obtain ⟨ns, rfl, hns⟩ := ints_of yt
  rw [ints_len, List.length_map] at yl
  rw [List.nil_append] at e3
  exact ⟨h1, ns, en', hh1, hns, yl, e3, ew⟩
theorem parts_turn {A : Ads} {h : D} {one found : List Int} {x3 x4 x5 x6 x7 : Option O} (hh : IsHand h) (lo : one.length ≤ 1000) (lf : found.length ≤ 20000) (bf : ∀ b ∈ found, Byte b) :
    ∃ (h' : D) (found' : List Int) (y4 y5 y6 : Option O), IsHand h' ∧ (∀ b ∈ found', Byte b) ∧ found'.length ≤ found.length + 1100 ∧
      b_law_parts_l0 A [some (.fl h), some (.val (rowD one)), some (.val (rowD found)), x3, x4, x5, x6, x7] = .ok .nx [some (.fl h'), some (.val (rowD one)), some (.val (rowD found')), x3, y4, y5, y6, x7] := by
  obtain ⟨w, h1, w0, w1, hh1, e1⟩ := take_is (A := A) (m := 3) hh (by omega) (by omega)
  obtain ⟨x, h2, hx, hh2, e2⟩ := pick_ok (A := A) (xs := [.int 3, .int 9, .int ((one.length : Int) + 1), .int 50]) hh1 (by simp) (by simp)
  have hv : ∃ v, x = .int v ∧ 0 ≤ v ∧ v ≤ 1001 := by
    simp only [List.mem_cons, List.not_mem_nil, or_false] at hx
    rcases hx with rfl | rfl | rfl | rfl <;> refine ⟨_, rfl, ?_⟩ <;> omega
  obtain ⟨v, rfl, v0, v1⟩ := hv
  obtain ⟨m, h3, m0, m1, hh3, e3⟩ := take_is (A := A) (m := 1 + v) hh2 (by omega) (by omega)
  have ef := figures_ok (A := A) (n := 3 * m + w)
  have bg := figs_bytes 10 (3 * m + w) (by omega) (by omega)
  have lg := figs_len 10 (3 * m + w)
  generalize figs 10 (3 * m + w) = gs at *
  have l1 : found.length + gs.length ≤ 16777216 := by omega
  have s3 : (-18446744073709551616 : Int) < 3 := by omega
  by_cases c : w = 2
  · subst c
    obtain ⟨q, h4, q0, q1, hh4, e4⟩ := take_is (A := A) (m := 12) hh3 (by omega) (by omega)
    obtain ⟨j, hj, j1⟩ : ∃ j : Int, (if (m - (if q = 0 then 1 else 0)) > 0 then m - (if q = 0 then 1 else 0) else 0) = j ∧ 0 ≤ j ∧ j ≤ 1002 := ⟨_, rfl, by split <;> split <;> omega⟩
    obtain ⟨h5, ns, en', hh5, hns, nl, ec, ew⟩ := parts_comp (A := A) (one := one) (found := found ++ gs) (x3 := x3) (x6 := x6) (x7 := x7) (w := 2) (m := m) (j := j) hh4
    have l2 : found.length + gs.length + ns.length ≤ 16777216 := by omega
    refine ⟨h5, found ++ gs ++ ns, some (.val (.int 2)), some (.val (.int m)), none, hh5, fun b hb => ?_, by rw [List.length_append, List.length_append]; omega, ?_⟩
    · rcases List.mem_append.mp hb with hb | hb
      · rcases List.mem_append.mp hb with hb | hb
        · exact bf b hb
        · exact bg b hb
      · exact hns b hb
    · unfold b_law_parts_l0
      unfold rowD at *
      simp only [List.map_append] at *
      clear bf bg lo lf hns nl
      by_cases cq : q = 0
      · subst cq
        rw [if_pos rfl] at hj
        simp! [e1, List.length_map, e2, e3, ef, l1, e4, g_max2, hj]
        rw [x_rng1 (by omega) (by omega)]
        simp! [ec, ew, List.length_append, List.length_map, l2]
      · rw [if_neg cq] at hj
        simp! [e1, List.length_map, e2, e3, ef, l1, e4, g_max2, cq, hj]
        rw [x_rng1 (by omega) (by omega)]
        simp! [ec, ew, List.length_append, List.length_map, l2]
  · refine ⟨h3, found ++ gs, some (.val (.int w)), some (.val (.int m)), x6, hh3, fun b hb => ?_, by rw [List.length_append]; omega, ?_⟩
    · rcases List.mem_append.mp hb with hb | hb
      · exact bf b hb
      · exact bg b hb
    · unfold b_law_parts_l0
      unfold rowD at *
      rw [List.map_append]
      clear bf bg lo lf
      simp! [e1, List.length_map, e2, e3, ef, l1, c]
end
end Lw
namespace Lw
open PySem PySem.Spec PyProof.Rows L2 Dn
noncomputable section
theorem parts_ok {A : Ads} {h : D} {one : List Int} (hh : IsHand h) (lo : one.length ≤ 1000) : ∃ (bs : List Int) (h' : D), IsHand h' ∧ (∀ b ∈ bs, Byte b) ∧ bs.length ≤ 20000 ∧ d_law_parts A [.fl h, .val (rowD one)] = .ok (.val (rowD bs)) [some (.fl h'), some (.val (rowD one))] := by
  obtain ⟨r, h1, r0, r1, hh1, e1⟩ := take_is (A := A) (m := 6) hh (by omega) (by omega)
  have L := forD_inv (asg := asgN 3) (g := b_law_parts_l0 A)
    (intsD 0 r) (fun i en => ∃ (h' : D) (found : List Int) (y3 y4 y5 y6 : Option O), IsHand h' ∧ (∀ b ∈ found, Byte b) ∧ found.length ≤ 1100 * i ∧ en = [some (.fl h'), some (.val (rowD one)), some (.val (rowD found)), y3, y4, y5, y6, none])
    [some (.fl h1), some (.val (rowD one)), some (.val (rowD [])), none, none, none, none, none] ⟨h1, [], none, none, none, none, hh1, by simp, by simp, rfl⟩ (by
      rintro i en k hk ⟨h', found, y3, y4, y5, y6, hh', hb, hl, rfl⟩
      have kl := ints_get hk
      obtain ⟨h2, found', z4, z5, z6, hh2, hb2, hl2, e2⟩ := parts_turn (A := A) (one := one) (found := found) (x3 := some (.val k)) (x4 := y4) (x5 := y5) (x6 := y6) (x7 := none) hh' lo (by omega) hb
      exact ⟨_, _, rfl, .inl e2, ⟨h2, found', some (.val k), z4, z5, z6, hh2, hb2, by omega, rfl⟩⟩)
  obtain ⟨en', e2, h2, found, y3, y4, y5, y6, hh2, hb, hl, rfl⟩ := L
  have ll : (intsD 0 r).length = r.toNat := by unfold intsD; simp
  rw [ll] at hl
  have hl : found.length ≤ 6600 := by omega
  clear ll
  obtain ⟨q, h3, q0, q1, hh3, e3⟩ := take_is (A := A) (m := 4) hh2 (by omega) (by omega)
  unfold d_law_parts
  rw [x_fn rfl]
  unfold b_law_parts
  have er : ∀ en : En, rng1 [.int r] en = .ok (intsD 0 r) en := fun en => x_rng1 (by omega) r0
  generalize intsD 0 r = L at *
  generalize b_law_parts_l0 A = G at *
  simp only [rowD, List.map_nil] at *
  by_cases c : q = 0
  · subst c
    obtain ⟨at_, h4, a0, a1, hh4, e4⟩ := take_is (A := A) (m := (found.length : Int) + 1) hh3 (by omega) (by omega)
    obtain ⟨bs, h5, bb, bl, hh5, e5⟩ := bytes_ok (A := A) (m := 2) hh4 (by omega) (by omega)
    have t1 : ((found.map D.int).take at_.toNat).length + bs.length ≤ 16777216 := by rw [List.length_take, List.length_map]; omega
    have t2 : ((found.map D.int).take at_.toNat ++ bs.map D.int).length + ((found.map D.int).drop at_.toNat).length ≤ 16777216 := by rw [List.length_append, List.length_take, List.length_drop, List.length_map, List.length_map]; omega
    refine ⟨found.take at_.toNat ++ bs ++ found.drop at_.toNat, h5, hh5, fun b hb' => ?_, by rw [List.length_append, List.length_append, List.length_take, List.length_drop]; omega, ?_⟩
    · rcases List.mem_append.mp hb' with hb' | hb'
      · rcases List.mem_append.mp hb' with hb' | hb'
        · exact hb b (List.mem_of_mem_take hb')
        · exact bb b hb'
      · exact hb b (List.mem_of_mem_drop hb')
    · rw [List.map_append, List.map_append, List.map_take, List.map_drop]
      unfold rowD at e5
      clear hl bl hb bb lo
      as_aux_lemma =>
        simp! [e1, er, e2, e3, List.length_map, e4, e5, g_slT, cut_toA a0, cut_fromA a0, t1, t2]
  · refine ⟨found, h3, hh3, hb, by omega, ?_⟩
    clear hl hb lo
    as_aux_lemma =>
      simp! [e1, er, e2, e3, c]
theorem near_ok {A : Ads} {h : D} {one : List Int} (hh : IsHand h) (lo : one.length ≤ 1000) (hb : ∀ b ∈ one, Byte b) : ∃ (bs : List Int) (h' : D), IsHand h' ∧ (∀ b ∈ bs, Byte b) ∧ bs.length ≤ 2000 ∧ d_law_near_row A [.fl h, .val (rowD one)] = .ok (.val (rowD bs)) [some (.fl h'), some (.val (rowD one))] := by
  obtain ⟨w, h1, w0, w1, hh1, e1⟩ := take_is (A := A) (m := 8) hh (by omega) (by omega)
  obtain ⟨a, h2, a0, a1, hh2, e2⟩ := take_is (A := A) (m := (one.length : Int) + 1) hh1 (by omega) (by omega)
  obtain ⟨ms, h3, mb, ml, hh3, e3⟩ := bytes_ok (A := A) (m := 20) hh2 (by omega) (by omega)
  have ba : ∀ xs ys : List Int, (∀ b ∈ xs, Byte b) → (∀ b ∈ ys, Byte b) → ∀ b ∈ xs ++ ys, Byte b := fun xs ys h1 h2 b hb => (List.mem_append.mp hb).elim (h1 b) (h2 b)
  have bt : ∀ k, ∀ b ∈ one.take k, Byte b := fun k b h => hb b (List.mem_of_mem_take h)
  have bd : ∀ k, ∀ b ∈ one.drop k, Byte b := fun k b h => hb b (List.mem_of_mem_drop h)
  unfold d_law_near_row
  rw [x_fn rfl]
  unfold b_law_near_row
  have hw : w = 0 ∨ w = 1 ∨ w = 2 ∨ w = 3 ∨ w = 4 ∨ (¬ w = 0 ∧ ¬ w = 1 ∧ ¬ w = 2 ∧ ¬ w = 3 ∧ ¬ w = 4) := by omega
  rcases hw with rfl | rfl | rfl | rfl | rfl | ⟨c0, c1, c2, c3, c4⟩
  · refine ⟨one, h3, hh3, hb, by omega, ?_⟩
    unfold rowD at *
    clear ml lo
    simp! [e1, List.length_map, e2, e3]
  · refine ⟨one.take a.toNat, h3, hh3, bt _, by rw [List.length_take]; omega, ?_⟩
    unfold rowD at *
    rw [List.map_take]
    clear ml lo
    simp! [e1, List.length_map, e2, e3, g_slT, cut_toA a0]
  · have t1 : ms.length + (one.length - a.toNat) ≤ 16777216 := by omega
    refine ⟨ms ++ one.drop a.toNat, h3, hh3, ba _ _ mb (bd _), by rw [List.length_append, List.length_drop]; omega, ?_⟩
    unfold rowD at *
    rw [List.map_append, List.map_drop]
    clear ml lo
    simp! [e1, List.length_map, e2, e3, g_slT, cut_fromA a0, List.length_drop, t1]
  · refine ⟨ms, h3, hh3, mb, by omega, ?_⟩
    unfold rowD at *
    clear ml lo
    simp! [e1, List.length_map, e2, e3]
  · have t1 : one.length + ms.length ≤ 16777216 := by omega
    refine ⟨one ++ ms, h3, hh3, ba _ _ hb mb, by rw [List.length_append]; omega, ?_⟩
    unfold rowD at *
    rw [List.map_append]
    clear ml lo
    simp! [e1, List.length_map, e2, e3, t1]
  · obtain ⟨z, h4, z0, z1, hh4, e4⟩ := take_is (A := A) (m := 12) hh3 (by omega) (by omega)
    have az : 0 ≤ a + z := by omega
    have t1 : ((one.map D.int).take a.toNat).length + ms.length ≤ 16777216 := by rw [List.length_take, List.length_map]; omega
    have t2 : ((one.map D.int).take a.toNat ++ ms.map D.int).length + ((one.map D.int).drop (a + z).toNat).length ≤ 16777216 := by rw [List.length_append, List.length_take, List.length_drop, List.length_map, List.length_map]; omega
    refine ⟨one.take a.toNat ++ ms ++ one.drop (a + z).toNat, h4, hh4, ba _ _ (ba _ _ (bt _) mb) (bd _), by rw [List.length_append, List.length_append, List.length_take, List.length_drop]; omega, ?_⟩
    unfold rowD at *
    rw [List.map_append, List.map_append, List.map_take, List.map_drop]
    have t3 : ((one.map D.int).take a.toNat).length + (ms.map D.int).length ≤ 16777216 := by rw [List.length_map (as := ms)]; exact t1
    have lm : ∀ xs : List Int, (xs.map D.int).length = xs.length := fun xs => List.length_map _
    have e2' := e2
    rw [← lm one] at e2'
    clear ml lo
    simp! [e1, e2', e3, c0, c1, c2, c3, c4, e4, g_slT, cut_toA a0, cut_fromA az, t3, t2]
end
end Lw
namespace Lw
open PySem PySem.Spec PyProof.Rows L2 Dn
noncomputable section
/-- plain data of None, whole numbers, texts and tuples, less deep than n -/
def pi : Nat → D → Bool
  | 0, _ => false
  | n + 1, d => match d with
    | .non | .int _ => true
    | .str x => x.cps.all (· < 0x110000)
    | .tup ds => ds.all (pi n)
    | _ => false
theorem toPs_of {n : Nat} (ih : ∀ d, pi n d = true → ∃ p, toP d = some p ∧ p.canLay0 = true ∧ p.depth ≤ n) : ∀ ds : List D, ds.all (pi n) = true → ∃ ps, toPs ds = some ps ∧ PyData.canLayAll0 ps = true ∧ PyData.depthAll ps ≤ n
  | [], _ => ⟨[], rfl, rfl, by show 0 ≤ n; omega⟩
  | d :: ds, h => by
    rw [List.all_cons, Bool.and_eq_true] at h
    obtain ⟨p, e1, e2, e3⟩ := ih d h.1
    obtain ⟨ps, e4, e5, e6⟩ := toPs_of ih ds h.2
    refine ⟨p :: ps, by rw [toPs, e1, e4], by rw [PyData.canLayAll0, e2, e5]; rfl, ?_⟩
    rw [PyData.depthAll]
    omega
theorem pi_toP : ∀ (n : Nat) (d : D), pi n d = true → ∃ p, toP d = some p ∧ p.canLay0 = true ∧ p.depth ≤ n
  | 0, d, h => by cases h
  | n + 1, d, h => by
    cases d with
    | non => exact ⟨_, rfl, rfl, by rw [PyData.depth]; omega⟩
    | int i => exact ⟨_, rfl, rfl, by rw [PyData.depth]; omega⟩
    | str x => exact ⟨_, rfl, by rw [PyData.canLay0]; exact h, by rw [PyData.depth]; omega⟩
    | tup ds =>
      obtain ⟨ps, e1, e2, e3⟩ := toPs_of (pi_toP n) ds h
      exact ⟨.tuple ps, by rw [toP, e1]; rfl, by rw [PyData.canLay0]; exact e2, by rw [PyData.depth]; omega⟩
    | _ => cases h
theorem toPs_eqv {n : Nat} (ih : ∀ d e p q, pi n d = true → pi n e = true → toP d = some p → toP e = some q → (PyData.eqv p q = true ↔ d = e)) : ∀ (ds es : List D) (ps qs : List PyData), ds.all (pi n) = true → es.all (pi n) = true → toPs ds = some ps → toPs es = some qs → (PyData.eqvAll ps qs = true ↔ ds = es)
  | [], [], ps, qs, _, _, h1, h2 => by cases h1; cases h2; exact ⟨fun _ => rfl, fun _ => rfl⟩
  | [], e :: es, ps, qs, _, _, h1, h2 => by
    cases h1
    rw [toPs] at h2
    split at h2
    · cases h2; exact ⟨fun h => (by rw [PyData.eqvAll] at h; cases h), fun h => (by cases h)⟩
    · cases h2
  | d :: ds, [], ps, qs, _, _, h1, h2 => by
    cases h2
    rw [toPs] at h1
    split at h1
    · cases h1; exact ⟨fun h => (by rw [PyData.eqvAll] at h; cases h), fun h => (by cases h)⟩
    · cases h1
  | d :: ds, e :: es, ps, qs, hd, he, h1, h2 => by
    rw [List.all_cons, Bool.and_eq_true] at hd he
    rw [toPs] at h1 h2
    split at h1
    · rename_i p ps' e1 e2
      cases h1
      split at h2
      · rename_i q qs' e3 e4
        cases h2
        rw [PyData.eqvAll, Bool.and_eq_true, ih d e p q hd.1 he.1 e1 e3, toPs_eqv ih ds es ps' qs' hd.2 he.2 e2 e4, List.cons.injEq]
      · cases h2
    · cases h1
theorem toP_tup {ds : List D} {p : PyData} (h : toP (.tup ds) = some p) : ∃ ps, toPs ds = some ps ∧ p = .tuple ps := by
  rw [toP] at h
  cases q : toPs ds with
  | none => rw [q] at h; cases h
  | some ps => rw [q] at h; cases h; exact ⟨ps, rfl, rfl⟩
theorem pi_eqv : ∀ (n : Nat) (d e : D) (p q : PyData), pi n d = true → pi n e = true → toP d = some p → toP e = some q → (PyData.eqv p q = true ↔ d = e)
  | 0, d, _, _, _, h, _, _, _ => by cases h
  | n + 1, d, e, p, q, hd, he, h1, h2 => by
    cases d with
    | non =>
      cases h1
      cases e with
      | non => cases h2; exact ⟨fun _ => rfl, fun _ => rfl⟩
      | int i => cases h2; exact ⟨fun h => (by rw [PyData.eqv] at h; cases h), fun h => (by cases h)⟩
      | str x => cases h2; exact ⟨fun h => (by rw [PyData.eqv] at h; cases h), fun h => (by cases h)⟩
      | tup es => obtain ⟨qs, _, rfl⟩ := toP_tup h2; exact ⟨fun h => (by rw [PyData.eqv] at h; cases h), fun h => (by cases h)⟩
      | _ => cases he
    | int i =>
      cases h1
      cases e with
      | non => cases h2; exact ⟨fun h => (by rw [PyData.eqv] at h; cases h), fun h => (by cases h)⟩
      | int j => cases h2; rw [PyData.eqv, D.int.injEq]; simp
      | str x => cases h2; exact ⟨fun h => (by rw [PyData.eqv] at h; cases h), fun h => (by cases h)⟩
      | tup es => obtain ⟨qs, _, rfl⟩ := toP_tup h2; exact ⟨fun h => (by rw [PyData.eqv] at h; cases h), fun h => (by cases h)⟩
      | _ => cases he
    | str x =>
      cases h1
      cases e with
      | non => cases h2; exact ⟨fun h => (by rw [PyData.eqv] at h; cases h), fun h => (by cases h)⟩
      | int j => cases h2; exact ⟨fun h => (by rw [PyData.eqv] at h; cases h), fun h => (by cases h)⟩
      | str y => cases h2; rw [PyData.eqv, D.str.injEq]; simp
      | tup es => obtain ⟨qs, _, rfl⟩ := toP_tup h2; exact ⟨fun h => (by rw [PyData.eqv] at h; cases h), fun h => (by cases h)⟩
      | _ => cases he
    | tup ds =>
      obtain ⟨ps, e1, rfl⟩ := toP_tup h1
      cases e with
      | non => cases h2; exact ⟨fun h => (by rw [PyData.eqv] at h; cases h), fun h => (by cases h)⟩
      | int j => cases h2; exact ⟨fun h => (by rw [PyData.eqv] at h; cases h), fun h => (by cases h)⟩
      | str y => cases h2; exact ⟨fun h => (by rw [PyData.eqv] at h; cases h), fun h => (by cases h)⟩
      | tup es =>
        obtain ⟨qs, e2, rfl⟩ := toP_tup h2
        rw [PyData.eqv, D.tup.injEq]
        exact toPs_eqv (pi_eqv n) ds es ps qs hd he e1 e2
      | _ => cases he
    | _ => cases hd
open Classical in
theorem pi_eqB {n : Nat} (hn : n ≤ 64) {d e : D} (hd : pi n d = true) (he : pi n e = true) : eqB d e = some (decide (d = e)) := by
  obtain ⟨p, e1, e2, e3⟩ := pi_toP n d hd
  obtain ⟨q, e4, e5, e6⟩ := pi_toP n e he
  unfold eqB
  rw [e1, e4]
  simp only
  rw [if_pos ⟨by unfold SeqAt.shaped; rw [e2, decide_eq_true (by omega)]; rfl, by unfold SeqAt.shaped; rw [e5, decide_eq_true (by omega)]; rfl⟩]
  congr 1
  rw [Bool.eq_iff_iff, decide_eq_true_iff]
  exact pi_eqv n d e p q hd he e1 e4
open Classical in
theorem pi_eqT {n : Nat} (hn : n ≤ 64) {ds es : List D} (hd : pi n (.tup ds) = true) (he : pi n (.tup es) = true) : eqA (.tup ds) (.tup es) = some (.bl (decide (ds = es))) := by
  show (eqS _ _).or (eqG _ _) = _
  have : eqS (.tup ds) (.tup es) = none := rfl
  rw [this]
  unfold eqG
  rw [pi_eqB hn hd he]
  show some (D.bl _) = _
  congr 2
  simp
end
end Lw
namespace Lw
open PySem PySem.Spec PyProof.Rows L2 Dn
noncomputable section
theorem g_notT : notA (.bl true) (.bl true) = some (.bl false) := rfl
theorem g_notF : notA (.bl false) (.bl false) = some (.bl false) := rfl
theorem same8 {A : Ads} {d : D} (h : pd 8 d = true) : d_law_same A [.val d, .val d] = .ok (.val (.bl true)) [some (.val d), some (.val d)] := same_self 8 d h
theorem pd_row (bs : List Int) (n : Nat) : pd (n + 2) (rowD bs) = true := by
  unfold rowD
  rw [pd]
  exact List.all_eq_true.mpr fun d hd => by
    obtain ⟨b, _, rfl⟩ := List.mem_map.mp hd
    rfl
theorem pd_toldD (r : Sum (List Int) Int) : pd 8 (toldD r) = true := by
  cases r with
  | inl out =>
    unfold toldD
    rw [pd]
    simp only [List.all_cons, List.all_nil, Bool.and_true]
    rw [pd_row out 5]
    rfl
  | inr q => rfl
theorem pi_row (bs : List Int) : pi 2 (rowD bs) = true := by
  unfold rowD
  rw [pi]
  exact List.all_eq_true.mpr fun d hd => by
    obtain ⟨b, _, rfl⟩ := List.mem_map.mp hd
    rfl
theorem rowD_inj {a b : List Int} (h : rowD a = rowD b) : a = b := by
  unfold rowD at h
  have h2 : a.map D.int = b.map D.int := D.tup.inj h
  exact (List.map_inj_right (f := D.int) (fun x y e => by cases e; rfl)).mp h2
theorem eq_told (r : Sum (List Int) Int) (other : List Int) : eqA (toldD r) (.tup [.str "told", rowD other]) = some (.bl (decide (r = .inl other))) := by
  have h2 : pi 3 (.tup [.str "told", rowD other]) = true := by
    rw [pi]
    simp only [List.all_cons, List.all_nil, Bool.and_true]
    rw [pi_row other, (show pi 2 (.str "told") = true by decide +kernel)]; rfl
  cases r with
  | inl out =>
    have h1 : pi 3 (.tup [.str "told", rowD out]) = true := by
      rw [pi]
      simp only [List.all_cons, List.all_nil, Bool.and_true]
      rw [pi_row out, (show pi 2 (.str "told") = true by decide +kernel)]; rfl
    unfold toldD
    rw [pi_eqT (n := 3) (by omega) h1 h2]
    congr 2
    rw [decide_eq_decide]
    constructor
    · intro h
      have h3 : rowD out = rowD other := by
        have := List.cons.inj h
        exact (List.cons.inj this.2).1
      rw [rowD_inj h3]
    · intro h
      cases h; rfl
  | inr q =>
    unfold toldD
    rw [pi_eqT (n := 3) (by omega) (show pi 3 (.tup [.str "BadChange", .int q]) = true by rw [pi]; simp only [List.all_cons, List.all_nil, Bool.and_true]; rw [(show pi 2 (.str "BadChange") = true by decide +kernel)]; rfl) h2]
    congr 2
    rw [decide_eq_decide]
    constructor
    · intro h
      have h4 : (D.str (Str.ofString "BadChange")) = .str (Str.ofString "told") := (List.cons.inj h).1
      have h5 := D.str.inj h4
      exact absurd h5 (by decide)
    · intro h; cases h
theorem led_bytes {one bs : List Int} (b1 : ∀ b ∈ one, Byte b) (b2 : ∀ b ∈ bs, Byte b) : ∀ (f : Nat) (p t : Int) (made out : List Int), (∀ b ∈ made, Byte b) → ledF one bs f p t made = .inl out → ∀ b ∈ out, Byte b
  | 0, p, t, made, out, hm, h => by cases h
  | f + 1, p, t, made, out, hm, h => by
    rw [ledF] at h
    by_cases c : p = bs.length
    · rw [if_pos c] at h; cases h; exact hm
    · rw [if_neg c] at h
      have ap : ∀ xs : List Int, (∀ b ∈ xs, Byte b) → ∀ b ∈ made ++ xs, Byte b := fun xs hx b hb => (List.mem_append.mp hb).elim (hm b) (hx b)
      cases hp : partF bs p with
      | none => rw [hp] at h; cases h
      | some r =>
        obtain ⟨kd, m, b⟩ := r
        rw [hp] at h
        simp only at h
        by_cases c2 : kd = 2
        · rw [if_pos c2] at h
          exact led_bytes b1 b2 f _ _ _ out (ap _ fun b hb => b2 b (List.mem_of_mem_drop (List.mem_of_mem_take hb))) h
        · rw [if_neg c2] at h
          by_cases c3 : (one.length : Int) < t + m
          · rw [if_pos c3] at h; cases h
          · rw [if_neg c3] at h
            by_cases c4 : kd = 0
            · rw [if_pos c4] at h
              exact led_bytes b1 b2 f _ _ _ out (ap _ fun b hb => b1 b (List.mem_of_mem_drop (List.mem_of_mem_take hb))) h
            · rw [if_neg c4] at h
              exact led_bytes b1 b2 f _ _ _ out hm h
section
variable {A : Ads} (dd : Dist A)
include dd
/-- the end of a turn: a row of parts, judged by is_change -/
theorem q8_ok {one bs other : List Int} {s h tl : D} {x3 x8 : Option O} (lo : one.length ≤ 1000) (lb : bs.length ≤ 20000) (l3 : other.length ≤ 2000) (b1 : ∀ b ∈ one, Byte b) (b2 : ∀ b ∈ bs, Byte b) (b3 : ∀ b ∈ other, Byte b) :
    b_law_q3_8 A [some (.val s), some (.fl h), some (.val (rowD one)), x3, some (.val (rowD bs)), some (.val (toldD (ledF one bs (bs.length + 1) 0 0 []))), some (.val (rowD other)), some (.val tl), x8] =
      .ok .nx [some (.val s), some (.fl h), some (.val (rowD one)), x3, some (.val (rowD bs)), some (.val (toldD (ledF one bs (bs.length + 1) 0 0 []))), some (.val (rowD other)), some (.val tl), x8] := by
  have e1 := isch_ok dd (one := one) (bs := bs) (other := other) (by omega) (by omega) b1 b2 (by omega) b3
  have e2 := eq_told (ledF one bs (bs.length + 1) 0 0 []) other
  have hi : ∀ out, ledF one bs (bs.length + 1) 0 0 [] = .inl out → d_is_change A [.val (rowD one), .val (rowD out), .val (rowD bs)] = .ok (.val (.bl true)) [some (.val (rowD one)), some (.val (rowD out)), some (.val (rowD bs))] := fun out q => by
    have l := (changed_told dd (by omega) (by omega) b1 b2 q).1
    have e := isch_ok dd (one := one) (bs := bs) (other := out) (by omega) (by omega) b1 b2 (by omega) (led_bytes b1 b2 _ _ _ _ _ (by simp) q)
    rw [q] at e
    simpa using e
  generalize ledF one bs (bs.length + 1) 0 0 [] = r at *
  have e3 := same8 (A := A) (d := .bl (decide (r = .inl other))) rfl
  generalize decide (r = .inl other) = k at *
  unfold b_law_q3_8
  generalize d_is_change A = F1 at *
  generalize d_law_same A = F2 at *
  clear lo lb l3 b1 b2 b3
  cases r with
  | inl out =>
    have e4 := hi out rfl
    clear hi
    unfold toldD at *
    as_aux_lemma =>
      simp! [e1, e2, e3, e4, g_notT]
  | inr q =>
    clear hi
    unfold toldD at *
    as_aux_lemma =>
      simp! [e1, e2, e3]
end
end
end Lw
namespace Lw
open PySem PySem.Spec PyProof.Rows L2 Dn
noncomputable section
section
variable {A : Ads} (dd : Dist A)
include dd
theorem turn_ok {one : List Int} {s h : D} {x3 x4 x5 x6 x7 x8 : Option O} (hh : IsHand h) (lo : one.length ≤ 1000) (b1 : ∀ b ∈ one, Byte b) :
    ∃ (h' : D) (y4 y5 y6 y7 : Option O), IsHand h' ∧ b_law_l0 A [some (.val s), some (.fl h), some (.val (rowD one)), x3, x4, x5, x6, x7, x8] = .ok .nx [some (.val s), some (.fl h'), some (.val (rowD one)), x3, y4, y5, y6, y7, x8] := by
  obtain ⟨bs, h1, hh1, b2, lb, e1⟩ := parts_ok (A := A) hh lo
  have e2 := led_ok (A := A) (one := one) (bs := bs) (by omega) (by omega)
  have e3 := told_ok dd (one := one) (bs := bs) (by omega) (by omega) b1 b2
  have e4 := same8 (A := A) (pd_toldD (ledF one bs (bs.length + 1) 0 0 []))
  obtain ⟨other, h2, hh2, b3, l3, e5⟩ := near_ok (A := A) hh1 lo b1
  have e6 := change_ok (A := A) (one := one) (other := other) (by omega) (by omega) b1 b3
  have lc := changeL_len (one := one) (other := other) (by omega) (by omega)
  have bc := changeL_bytes (one := one) (other := other) (by omega) (by omega) b3
  have e7 := law_is_row_ok (A := A) (d := rowD (changeL one other)) rfl pl_row
  rw [row_is (by omega) bc] at e7
  have e8 := led_ok (A := A) (one := one) (bs := changeL one other) (by omega) (by omega)
  have cl := change_led (one := one) (other := other) (by omega) (by omega)
  rw [cl] at e8
  have e9 := same8 (A := A) (pd_toldD (.inl other))
  have e10 := (changed_told dd (one := one) (bs := changeL one other) (by omega) (by omega) b1 bc cl).2
  have e11 := same8 (A := A) (d := rowD other) (pd_row other 6)
  have e12 := isch_ok dd (one := one) (bs := changeL one other) (other := other) (by omega) (by omega) b1 bc (by omega) b3
  rw [cl] at e12
  have e12 : d_is_change A [.val (rowD one), .val (rowD other), .val (rowD (changeL one other))] = .ok (.val (.bl true)) [some (.val (rowD one)), some (.val (rowD other)), some (.val (rowD (changeL one other)))] := by simpa using e12
  have e13 := fun (tl : D) => q8_ok dd (one := one) (bs := bs) (other := other) (s := s) (h := h2) (tl := tl) (x3 := x3) (x8 := x8) lo lb l3 b1 b2 b3
  have e14 : eqA (rowD one) (rowD other) = some (.bl (decide (one = other))) := eq_ints one other
  have g1 : ¬ ((other.length : Int) + 11 < ((changeL one other).length : Int)) := by omega
  have g2 : one = other → ¬ ((11 : Int) < ((changeL one other).length : Int)) := fun q => by have := lc.2 q; omega
  have g3 : toldD (.inl other) = .tup [.str "told", rowD other] := rfl
  rw [g3] at e8 e9
  generalize ledF one bs (bs.length + 1) 0 0 [] = r at *
  generalize changeL one other = cs at *
  refine ⟨h2, some (.val (rowD bs)), some (.val (toldD r)), some (.val (rowD other)), some (.val (rowD cs)), hh2, ?_⟩
  have e13 := e13 (rowD cs)
  have n1 : lenS (rowD other) = some (.int (other.length : Int)) := by unfold rowD; rw [Dn.g_lenT, List.length_map]
  have n2 : lenS (rowD cs) = some (.int (cs.length : Int)) := by unfold rowD; rw [Dn.g_lenT, List.length_map]
  clear lo lb l3 b1 b2 b3 lc bc cl g3
  unfold b_law_l0 b_law_q3_1 b_law_q3_2 b_law_q3_3 b_law_q3_4 b_law_q3_5 b_law_q3_6 b_law_q3_7
  generalize b_law_q3_8 A = G at *
  generalize d_law_parts A = F1 at *
  generalize d_law_led A = F2 at *
  generalize d_law_told A = F3 at *
  generalize d_law_same A = F4 at *
  generalize d_law_near_row A = F5 at *
  generalize d_change A = F6 at *
  generalize d_law_is_row A = F7 at *
  generalize d_changed A = F8 at *
  generalize d_is_change A = F9 at *
  generalize rowD one = o1 at *
  generalize rowD other = o2 at *
  generalize rowD cs = o3 at *
  generalize rowD bs = o4 at *
  generalize toldD r = o5 at *
  by_cases c : one = other
  · have g2 := g2 c
    rw [decide_eq_true c] at e14
    as_aux_lemma =>
      simp! [e1, e2, e3, e4, e5, e6, e7, e8, e9, e10, e11, e12, e13, e14, g1, g2, n1, n2, g_notT]
  · rw [decide_eq_false c] at e14
    as_aux_lemma =>
      simp! [e1, e2, e3, e4, e5, e6, e7, e8, e9, e10, e11, e12, e13, e14, g1, n1, n2, g_notT]
end
end
end Lw
namespace Lw
open PySem PySem.Spec PyProof.Rows L2 Dn
noncomputable section
def oddL (one : List Int) : List D := [.lst (one.map D.int), .tup [.int 256], .tup [.bl true], .non, .str "a", .dK [] []]
theorem odd_facts {one : List Int} {x : D} (h : x ∈ oddL one) : Pn x ∧ isRow x = false := by
  unfold oddL at h
  simp only [List.mem_cons, List.not_mem_nil, or_false] at h
  rcases h with rfl | rfl | rfl | rfl | rfl | rfl
  · exact ⟨⟨rfl, fun ds e => by cases e⟩, rfl⟩
  · refine ⟨⟨rfl, fun ds e x hx => ?_⟩, by decide +kernel⟩
    cases e
    rcases List.mem_singleton.mp hx with rfl
    rfl
  · refine ⟨⟨rfl, fun ds e x hx => ?_⟩, by decide +kernel⟩
    cases e
    rcases List.mem_singleton.mp hx with rfl
    rfl
  · exact ⟨⟨rfl, fun ds e => by cases e⟩, rfl⟩
  · exact ⟨⟨rfl, fun ds e => by cases e⟩, rfl⟩
  · exact ⟨⟨rfl, fun ds e => by cases e⟩, rfl⟩
theorem big_is {one : List Int} (lo : one.length ≤ 60) (b1 : ∀ b ∈ one, Byte b) : ∃ big : List Int, repA (.tup (one.map D.int ++ [.int 1, .int 2, .int 3])) (.int 11) = some (rowD big) ∧ big.length ≤ 1000 ∧ ∀ b ∈ big, Byte b := by
  refine ⟨(List.replicate 11 (one ++ [1, 2, 3])).flatten, ?_, ?_, ?_⟩
  · rw [g_repA (by simp) (by omega) (by omega) (by simp; omega)]
    unfold rowD
    rw [List.map_flatten, List.map_replicate, List.map_append]
    rfl
  · rw [List.length_flatten, List.map_replicate, List.sum_replicate_nat]
    simp; omega
  · intro b hb
    obtain ⟨l, hl, hb⟩ := List.mem_flatten.mp hb
    obtain ⟨_, rfl⟩ := List.mem_replicate.mp hl
    rcases List.mem_append.mp hb with hb | hb
    · exact b1 b hb
    · unfold Byte
      simp only [List.mem_cons, List.not_mem_nil, or_false] at hb
      omega
theorem eq_norow : eqA (.tup [.str "NoRow"]) (.tup [.str "NoRow"]) = some (.bl true) := by
  have h : pi 2 (.tup [.str "NoRow"]) = true := by decide +kernel
  rw [pi_eqT (n := 2) (by omega) h h]
  congr 2
  simp
section
variable {A : Ads} (dd : Dist A)
include dd
theorem tail_ok {one : List Int} {s h : D} (hh : IsHand h) (lo : one.length ≤ 1000) (b1 : ∀ b ∈ one, Byte b) : ∃ en : En, b_law_r3 A [some (.val s), some (.fl h), some (.val (rowD one)), none, none, none, none, none, none] = .ok (.rt (.val (.bl true))) (some (.val s) :: en) := by
  obtain ⟨en1, e1, h1, y3, y4, y5, y6, y7, hh1, rfl⟩ := forD_inv (asg := asgN 3) (g := b_law_l0 A) (intsD 0 3) (fun _ en => ∃ h' y3 y4 y5 y6 y7, IsHand h' ∧ en = [some (.val s), some (.fl h'), some (.val (rowD one)), y3, y4, y5, y6, y7, none])
    [some (.val s), some (.fl h), some (.val (rowD one)), none, none, none, none, none, none] ⟨_, _, _, _, _, _, hh, rfl⟩ (by
      rintro i en k hk ⟨h', y3, y4, y5, y6, y7, hh', rfl⟩
      obtain ⟨h2, z4, z5, z6, z7, hh2, e⟩ := turn_ok dd (one := one) (s := s) (x3 := some (.val k)) (x4 := y4) (x5 := y5) (x6 := y6) (x7 := y7) (x8 := none) hh' lo b1
      exact ⟨_, _, rfl, .inl e, _, _, _, _, _, _, hh2, rfl⟩)
  obtain ⟨x, h2, hx, hh2, e2⟩ := pick_ok (A := A) (xs := oddL one) hh1 (by unfold oddL; simp) (by unfold oddL; simp)
  obtain ⟨px, nx⟩ := odd_facts hx
  have po := pn_row one
  have ro := row_is (bs := one) (by omega) b1
  have f1 := refused_ok dd px po (.inl nx)
  have f2 := refused_ok dd po px (.inr nx)
  have f3 := isch_odd dd po po ro ro px nx
  have f4 := told_no dd px (pn_row []) (.inl nx)
  have f5 := told_no dd po px (.inr nx)
  unfold oddL at e2
  unfold b_law_r3 b_law_r4 b_law_r5
  have er : ∀ en : En, rng1 [.int 3] en = .ok (intsD 0 3) en := fun en => x_rng1 (by omega) (by omega)
  generalize intsD 0 3 = L at *
  generalize b_law_l0 A = G at *
  generalize d_law_pick A = F1 at *
  generalize d_law_refused A = F2 at *
  generalize d_is_change A = F3 at *
  generalize d_law_told A = F4 at *
  clear hx nx px po ro lo b1
  unfold rowD at *
  simp only [List.map_nil] at f4
  refine ⟨[some (.fl h2), some (.val (.tup (one.map D.int))), y3, y4, y5, y6, y7, some (.val x)], ?_⟩
  as_aux_lemma =>
    simp! [er, e1, e2, f1, f2, f3, f4, f5, g_notF, eq_norow]
end
theorem pure_law : ∀ A : Ads, Dist A → ∀ ns : List Int, ns.length ≤ 63 → ∃ ps : En, ps.length = 1 ∧ d_law A [.val (.sc ns)] = .ok (.val (.bl true)) ps := fun A dd ns hn => by
  obtain ⟨h0, hh0, e0⟩ := hand_ok (A := A) (ns := ns)
  obtain ⟨one, h1, b1, l1, hh1, e1⟩ := bytes_ok (A := A) (m := 60) hh0 (by omega) (by omega)
  obtain ⟨q, h2, q0, q1, hh2, e2⟩ := take_is (A := A) (m := 10) hh1 (by omega) (by omega)
  obtain ⟨big, eb, lb, bb⟩ := big_is (one := one) (by omega) b1
  have er := tail_ok dd (s := .sc ns) hh2 lb bb
  have er0 := tail_ok dd (s := .sc ns) (one := one) hh2 (by omega) b1
  have ea : one.length + 3 ≤ 16777216 := by omega
  unfold d_law
  rw [x_fn rfl]
  unfold b_law b_law_r1 b_law_r2
  generalize b_law_r3 A = G at *
  clear l1 lb b1 bb
  by_cases c : q = 0
  · subst c
    obtain ⟨en, er⟩ := er
    refine ⟨[some (.val (.sc ns))], rfl, ?_⟩
    unfold rowD at *
    as_aux_lemma =>
      simp! [e0, e1, e2, List.length_map, ea, eb, er]
  · obtain ⟨en, er0⟩ := er0
    refine ⟨[some (.val (.sc ns))], rfl, ?_⟩
    as_aux_lemma =>
      simp! [e0, e1, e2, c, er0]
end
end Lw
namespace Lw
open PySem PySem.Spec PyProof.Rows L2 Dn
noncomputable section
abbrev si_BadChange : Stmt := inClass (top 5) 0
theorem sci_BadChange : FnScope ["self", "place"] ["self", "place"] (defScope si_BadChange) := ⟨rfl, rfl, rfl, by decide +kernel, rfl, by decide +kernel, by decide +kernel⟩
abbrev si_BadRow : Stmt := inClass (top 4) 0
theorem sci_BadRow : FnScope ["self", "place"] ["self", "place"] (defScope si_BadRow) := ⟨rfl, rfl, rfl, by decide +kernel, rfl, by decide +kernel, by decide +kernel⟩
theorem all_mk (pure : ∀ A : Ads, Dist A → ∀ ns : List Int, ns.length ≤ 63 → ∃ ps : En, ps.length = 1 ∧ d_law A [.val (.sc ns)] = .ok (.val (.bl true)) ps) {P : Program} {w : World} {K : PySem.W.Frag} {h : Heap} {mg : Str → Option Value} {fa : Addr} (X : K.In h) (G : h.Ns mainGlobals mg) (hfa : mg "law" = some (.ref fa))
    {C_BadChange C_BadRow C_NoNumber C_NoRow : Addr}
    {tk_BYTES : Tok}
    {tk_KEEP : Tok}
    {tk_LEAVE_OUT : Tok}
    {tk_MOST_BYTES : Tok}
    {tk_MOST_FIGURES : Tok}
    {tk_PUT_IN : Tok}
    {tk_WHOLES : Tok}
    {nm_BadChange qn_BadChange : Str} {N_BadChange : Addr} {bs_BadChange bm_BadChange : List Value} {sn_BadChange : List Str} {su_BadChange : List Value} {ab_BadChange : Bool} {co_BadChange : Option Bool} {dd_BadChange : Option Addr} {m0_BadChange m1_BadChange m2_BadChange m3_BadChange m5_BadChange : Option Value}
    {f_i_BadChange : Addr} {od_i_BadChange an_i_BadChange : Option Addr} {sl_i_BadChange : Array (Option Value)} {oc_i_BadChange kV_i_BadChange dc_i_BadChange pm_i_BadChange cd_i_BadChange ct_i_BadChange : Value}
    {nm_BadRow qn_BadRow : Str} {N_BadRow : Addr} {bs_BadRow bm_BadRow : List Value} {sn_BadRow : List Str} {su_BadRow : List Value} {ab_BadRow : Bool} {co_BadRow : Option Bool} {dd_BadRow : Option Addr} {m0_BadRow m1_BadRow m2_BadRow m3_BadRow m5_BadRow : Option Value}
    {f_i_BadRow : Addr} {od_i_BadRow an_i_BadRow : Option Addr} {sl_i_BadRow : Array (Option Value)} {oc_i_BadRow kV_i_BadRow dc_i_BadRow pm_i_BadRow cd_i_BadRow ct_i_BadRow : Value}
    {f_law_hand : Addr} {od_law_hand an_law_hand : Option Addr} {sl_law_hand : Array (Option Value)} {oc_law_hand kV_law_hand dc_law_hand pm_law_hand cd_law_hand ct_law_hand : Value}
    {f_law_take : Addr} {od_law_take an_law_take : Option Addr} {sl_law_take : Array (Option Value)} {oc_law_take kV_law_take dc_law_take pm_law_take cd_law_take ct_law_take : Value}
    {f_law_pick : Addr} {od_law_pick an_law_pick : Option Addr} {sl_law_pick : Array (Option Value)} {oc_law_pick kV_law_pick dc_law_pick pm_law_pick cd_law_pick ct_law_pick : Value}
    {f_law_bytes : Addr} {od_law_bytes an_law_bytes : Option Addr} {sl_law_bytes : Array (Option Value)} {oc_law_bytes kV_law_bytes dc_law_bytes pm_law_bytes cd_law_bytes ct_law_bytes : Value}
    {f_law_figures : Addr} {od_law_figures an_law_figures : Option Addr} {sl_law_figures : Array (Option Value)} {oc_law_figures kV_law_figures dc_law_figures pm_law_figures cd_law_figures ct_law_figures : Value}
    {f_law_parts : Addr} {od_law_parts an_law_parts : Option Addr} {sl_law_parts : Array (Option Value)} {oc_law_parts kV_law_parts dc_law_parts pm_law_parts cd_law_parts ct_law_parts : Value}
    {f_law_number_at : Addr} {od_law_number_at an_law_number_at : Option Addr} {sl_law_number_at : Array (Option Value)} {oc_law_number_at kV_law_number_at dc_law_number_at pm_law_number_at cd_law_number_at ct_law_number_at : Value}
    {f_law_led : Addr} {od_law_led an_law_led : Option Addr} {sl_law_led : Array (Option Value)} {oc_law_led kV_law_led dc_law_led pm_law_led cd_law_led ct_law_led : Value}
    {f_law_near_row : Addr} {od_law_near_row an_law_near_row : Option Addr} {sl_law_near_row : Array (Option Value)} {oc_law_near_row kV_law_near_row dc_law_near_row pm_law_near_row cd_law_near_row ct_law_near_row : Value}
    {f_is_row : Addr} {od_is_row an_is_row : Option Addr} {sl_is_row : Array (Option Value)} {oc_is_row kV_is_row dc_is_row pm_is_row cd_is_row ct_is_row : Value}
    {f_check_rows : Addr} {od_check_rows an_check_rows : Option Addr} {sl_check_rows : Array (Option Value)} {oc_check_rows kV_check_rows dc_check_rows pm_check_rows cd_check_rows ct_check_rows : Value}
    {f_many_alike : Addr} {od_many_alike an_many_alike : Option Addr} {sl_many_alike : Array (Option Value)} {oc_many_alike kV_many_alike dc_many_alike pm_many_alike cd_many_alike ct_many_alike : Value}
    {f_is_int : Addr} {od_is_int an_is_int : Option Addr} {sl_is_int : Array (Option Value)} {oc_is_int kV_is_int dc_is_int pm_is_int cd_is_int ct_is_int : Value}
    {f_is_number : Addr} {od_is_number an_is_number : Option Addr} {sl_is_number : Array (Option Value)} {oc_is_number kV_is_number dc_is_number pm_is_number cd_is_number ct_is_number : Value}
    {f_is_number_below : Addr} {od_is_number_below an_is_number_below : Option Addr} {sl_is_number_below : Array (Option Value)} {oc_is_number_below kV_is_number_below dc_is_number_below pm_is_number_below cd_is_number_below ct_is_number_below : Value}
    {f_whole : Addr} {od_whole an_whole : Option Addr} {sl_whole : Array (Option Value)} {oc_whole kV_whole dc_whole pm_whole cd_whole ct_whole : Value}
    {f_part : Addr} {od_part an_part : Option Addr} {sl_part : Array (Option Value)} {oc_part kV_part dc_part pm_part cd_part ct_part : Value}
    {f_change : Addr} {od_change an_change : Option Addr} {sl_change : Array (Option Value)} {oc_change kV_change dc_change pm_change cd_change ct_change : Value}
    {f_law_is_integer : Addr} {od_law_is_integer an_law_is_integer : Option Addr} {sl_law_is_integer : Array (Option Value)} {oc_law_is_integer kV_law_is_integer dc_law_is_integer pm_law_is_integer cd_law_is_integer ct_law_is_integer : Value}
    {f_law_same : Addr} {od_law_same an_law_same : Option Addr} {sl_law_same : Array (Option Value)} {oc_law_same kV_law_same dc_law_same pm_law_same cd_law_same ct_law_same : Value}
    {f_whole_at : Addr} {od_whole_at an_whole_at : Option Addr} {sl_whole_at : Array (Option Value)} {oc_whole_at kV_whole_at dc_whole_at pm_whole_at cd_whole_at ct_whole_at : Value}
    {f_part_at : Addr} {od_part_at an_part_at : Option Addr} {sl_part_at : Array (Option Value)} {oc_part_at kV_part_at dc_part_at pm_part_at cd_part_at ct_part_at : Value}
    {f_changed : Addr} {od_changed an_changed : Option Addr} {sl_changed : Array (Option Value)} {oc_changed kV_changed dc_changed pm_changed cd_changed ct_changed : Value}
    {f_is_change : Addr} {od_is_change an_is_change : Option Addr} {sl_is_change : Array (Option Value)} {oc_is_change kV_is_change dc_is_change pm_is_change cd_is_change ct_is_change : Value}
    {f_law_refused : Addr} {od_law_refused an_law_refused : Option Addr} {sl_law_refused : Array (Option Value)} {oc_law_refused kV_law_refused dc_law_refused pm_law_refused cd_law_refused ct_law_refused : Value}
    {f_law_told : Addr} {od_law_told an_law_told : Option Addr} {sl_law_told : Array (Option Value)} {oc_law_told kV_law_told dc_law_told pm_law_told cd_law_told ct_law_told : Value}
    {f_law_is_within : Addr} {od_law_is_within an_law_is_within : Option Addr} {sl_law_is_within : Array (Option Value)} {oc_law_is_within kV_law_is_within dc_law_is_within pm_law_is_within cd_law_is_within ct_law_is_within : Value}
    {f_law_is_row : Addr} {od_law_is_row an_law_is_row : Option Addr} {sl_law_is_row : Array (Option Value)} {oc_law_is_row kV_law_is_row dc_law_is_row pm_law_is_row cd_law_is_row ct_law_is_row : Value}
    {f_law : Addr} {od_law an_law : Option Addr} {sl_law : Array (Option Value)} {oc_law kV_law dc_law pm_law cd_law ct_law : Value}
    (aC_BadChange : PySem.W.nsIn K mainGlobals "BadChange" = some (some (.ref C_BadChange)))
    (aC_BadRow : PySem.W.nsIn K mainGlobals "BadRow" = some (some (.ref C_BadRow)))
    (aC_NoNumber : PySem.W.nsIn K mainGlobals "NoNumber" = some (some (.ref C_NoNumber)))
    (aC_NoRow : PySem.W.nsIn K mainGlobals "NoRow" = some (some (.ref C_NoRow)))
    (z_all : PySem.W.nsIn K mainGlobals "all" = some none)
    (z_bool : PySem.W.nsIn K mainGlobals "bool" = some none)
    (z_enumerate : PySem.W.nsIn K mainGlobals "enumerate" = some none)
    (z_int : PySem.W.nsIn K mainGlobals "int" = some none)
    (z_isinstance : PySem.W.nsIn K mainGlobals "isinstance" = some none)
    (z_len : PySem.W.nsIn K mainGlobals "len" = some none)
    (z_list : PySem.W.nsIn K mainGlobals "list" = some none)
    (z_max : PySem.W.nsIn K mainGlobals "max" = some none)
    (z_min : PySem.W.nsIn K mainGlobals "min" = some none)
    (z_range : PySem.W.nsIn K mainGlobals "range" = some none)
    (z_str : PySem.W.nsIn K mainGlobals "str" = some none)
    (z_tuple : PySem.W.nsIn K mainGlobals "tuple" = some none)
    (z_zip : PySem.W.nsIn K mainGlobals "zip" = some none)
    (c_BYTES : PySem.W.nsIn K mainGlobals "BYTES" = some (some (.int 256 tk_BYTES)))
    (c_KEEP : PySem.W.nsIn K mainGlobals "KEEP" = some (some (.int 0 tk_KEEP)))
    (c_LEAVE_OUT : PySem.W.nsIn K mainGlobals "LEAVE_OUT" = some (some (.int 1 tk_LEAVE_OUT)))
    (c_MOST_BYTES : PySem.W.nsIn K mainGlobals "MOST_BYTES" = some (some (.int 300000 tk_MOST_BYTES)))
    (c_MOST_FIGURES : PySem.W.nsIn K mainGlobals "MOST_FIGURES" = some (some (.int 10 tk_MOST_FIGURES)))
    (c_PUT_IN : PySem.W.nsIn K mainGlobals "PUT_IN" = some (some (.int 2 tk_PUT_IN)))
    (c_WHOLES : PySem.W.nsIn K mainGlobals "WHOLES" = some (some (.int 18446744073709551616 tk_WHOLES)))
    (bb_BadChange : PySem.W.subIn K (.ref C_BadChange) (.type "BaseException") = some true)
    (tt_BadChange : PySem.W.typeIn K (.ref C_BadChange) = some (.type "type"))
    (kp_BadChange : PySem.W.keepIn K (.ref C_BadChange) = true)
    (bb_BadRow : PySem.W.subIn K (.ref C_BadRow) (.type "BaseException") = some true)
    (tt_BadRow : PySem.W.typeIn K (.ref C_BadRow) = some (.type "type"))
    (kp_BadRow : PySem.W.keepIn K (.ref C_BadRow) = true)
    (bb_NoNumber : PySem.W.subIn K (.ref C_NoNumber) (.type "BaseException") = some true)
    (tt_NoNumber : PySem.W.typeIn K (.ref C_NoNumber) = some (.type "type"))
    (kp_NoNumber : PySem.W.keepIn K (.ref C_NoNumber) = true)
    (bb_NoRow : PySem.W.subIn K (.ref C_NoRow) (.type "BaseException") = some true)
    (tt_NoRow : PySem.W.typeIn K (.ref C_NoRow) = some (.type "type"))
    (kp_NoRow : PySem.W.keepIn K (.ref C_NoRow) = true)
    (xga_BadChange : PySem.W.findIn K (.ref C_BadChange) "__getattribute__" = some (some (.builtin "BaseException.__getattribute__")))
    (xgg_BadChange : PySem.W.findIn K (.ref C_BadChange) "__getattr__" = some none)
    (xhd_BadChange : PySem.W.hasDictIn K C_BadChange = true)
    (xnf_BadChange_place : PySem.W.findIn K (.ref C_BadChange) "place" = some none)
    (qq_NoNumber : PySem.W.excIn K C_NoNumber bmVE "ValueError.__new__" = true)
    (qq_NoRow : PySem.W.excIn K C_NoRow bmVE "ValueError.__new__" = true)
    (ic_BadChange : PySem.W.isClsIn K C_BadChange = true)
    (sb_BadChange_BadChange : PySem.W.subIn K (.ref C_BadChange) (.ref C_BadChange) = some true)
    (sb_BadRow_BadChange : PySem.W.subIn K (.ref C_BadRow) (.ref C_BadChange) = some false)
    (sb_NoNumber_BadChange : PySem.W.subIn K (.ref C_NoNumber) (.ref C_BadChange) = some false)
    (sb_NoRow_BadChange : PySem.W.subIn K (.ref C_NoRow) (.ref C_BadChange) = some false)
    (ic_BadRow : PySem.W.isClsIn K C_BadRow = true)
    (sb_BadChange_BadRow : PySem.W.subIn K (.ref C_BadChange) (.ref C_BadRow) = some false)
    (sb_BadRow_BadRow : PySem.W.subIn K (.ref C_BadRow) (.ref C_BadRow) = some true)
    (sb_NoNumber_BadRow : PySem.W.subIn K (.ref C_NoNumber) (.ref C_BadRow) = some false)
    (sb_NoRow_BadRow : PySem.W.subIn K (.ref C_NoRow) (.ref C_BadRow) = some false)
    (ic_NoRow : PySem.W.isClsIn K C_NoRow = true)
    (sb_BadChange_NoRow : PySem.W.subIn K (.ref C_BadChange) (.ref C_NoRow) = some false)
    (sb_BadRow_NoRow : PySem.W.subIn K (.ref C_BadRow) (.ref C_NoRow) = some false)
    (sb_NoNumber_NoRow : PySem.W.subIn K (.ref C_NoNumber) (.ref C_NoRow) = some false)
    (sb_NoRow_NoRow : PySem.W.subIn K (.ref C_NoRow) (.ref C_NoRow) = some true)
    (xl_BadChange : K.lookup C_BadChange = some (excClassObj nm_BadChange qn_BadChange C_BadChange N_BadChange bs_BadChange bm_BadChange true sn_BadChange su_BadChange ab_BadChange co_BadChange dd_BadChange m0_BadChange m1_BadChange m2_BadChange m3_BadChange m5_BadChange "ValueError.__new__"))
    (rb_BadChange : PySem.HandSPX.refsVE bm_BadChange = true)
    (xs_BadChange : PySem.W.findIn K (.ref C_BadChange) "__setattr__" = some (some (.builtin "object.__setattr__")))
    (xn_BadChange : PySem.W.findIn K (.ref C_BadChange) "place" = some none)
    (xi_BadChange : PySem.W.findIn K (.ref C_BadChange) "__init__" = some (some (.ref f_i_BadChange)))
    (l_i_BadChange : K.lookup f_i_BadChange = some ⟨oc_i_BadChange, od_i_BadChange, .func (PySem.W.fnOf "__init__" "BadChange.__init__" (defArgs si_BadChange) (defBody si_BadChange) (defScope si_BadChange) .none kV_i_BadChange dc_i_BadChange pm_i_BadChange an_i_BadChange cd_i_BadChange ct_i_BadChange), sl_i_BadChange⟩)
    (cd_i_BadChange_ : PySem.W.codeIn K cd_i_BadChange "BadChange.__init__" = true)
    (kf_i_BadChange : PySem.W.keepIn K (.ref f_i_BadChange) = true)
    (xt_BadChange : PySem.W.typeIn K (.ref f_i_BadChange) = some (.type "function"))
    (xl_BadRow : K.lookup C_BadRow = some (excClassObj nm_BadRow qn_BadRow C_BadRow N_BadRow bs_BadRow bm_BadRow true sn_BadRow su_BadRow ab_BadRow co_BadRow dd_BadRow m0_BadRow m1_BadRow m2_BadRow m3_BadRow m5_BadRow "ValueError.__new__"))
    (rb_BadRow : PySem.HandSPX.refsVE bm_BadRow = true)
    (xs_BadRow : PySem.W.findIn K (.ref C_BadRow) "__setattr__" = some (some (.builtin "object.__setattr__")))
    (xn_BadRow : PySem.W.findIn K (.ref C_BadRow) "place" = some none)
    (xi_BadRow : PySem.W.findIn K (.ref C_BadRow) "__init__" = some (some (.ref f_i_BadRow)))
    (l_i_BadRow : K.lookup f_i_BadRow = some ⟨oc_i_BadRow, od_i_BadRow, .func (PySem.W.fnOf "__init__" "BadRow.__init__" (defArgs si_BadRow) (defBody si_BadRow) (defScope si_BadRow) .none kV_i_BadRow dc_i_BadRow pm_i_BadRow an_i_BadRow cd_i_BadRow ct_i_BadRow), sl_i_BadRow⟩)
    (cd_i_BadRow_ : PySem.W.codeIn K cd_i_BadRow "BadRow.__init__" = true)
    (kf_i_BadRow : PySem.W.keepIn K (.ref f_i_BadRow) = true)
    (xt_BadRow : PySem.W.typeIn K (.ref f_i_BadRow) = some (.type "function"))
    (an_law_hand_ : PySem.W.nsIn K mainGlobals "_law_hand" = some (some (.ref f_law_hand)))
    (l_law_hand : K.lookup f_law_hand = some ⟨oc_law_hand, od_law_hand, .func (PySem.W.fnOf "_law_hand" "_law_hand" (defArgs s_law_hand) (defBody s_law_hand) (defScope s_law_hand) .none kV_law_hand dc_law_hand pm_law_hand an_law_hand cd_law_hand ct_law_hand), sl_law_hand⟩)
    (cd_law_hand_ : PySem.W.codeIn K cd_law_hand "_law_hand" = true)
    (kf_law_hand : PySem.W.keepIn K (.ref f_law_hand) = true)
    (an_law_take_ : PySem.W.nsIn K mainGlobals "_law_take" = some (some (.ref f_law_take)))
    (l_law_take : K.lookup f_law_take = some ⟨oc_law_take, od_law_take, .func (PySem.W.fnOf "_law_take" "_law_take" (defArgs s_law_take) (defBody s_law_take) (defScope s_law_take) .none kV_law_take dc_law_take pm_law_take an_law_take cd_law_take ct_law_take), sl_law_take⟩)
    (cd_law_take_ : PySem.W.codeIn K cd_law_take "_law_take" = true)
    (kf_law_take : PySem.W.keepIn K (.ref f_law_take) = true)
    (an_law_pick_ : PySem.W.nsIn K mainGlobals "_law_pick" = some (some (.ref f_law_pick)))
    (l_law_pick : K.lookup f_law_pick = some ⟨oc_law_pick, od_law_pick, .func (PySem.W.fnOf "_law_pick" "_law_pick" (defArgs s_law_pick) (defBody s_law_pick) (defScope s_law_pick) .none kV_law_pick dc_law_pick pm_law_pick an_law_pick cd_law_pick ct_law_pick), sl_law_pick⟩)
    (cd_law_pick_ : PySem.W.codeIn K cd_law_pick "_law_pick" = true)
    (kf_law_pick : PySem.W.keepIn K (.ref f_law_pick) = true)
    (an_law_bytes_ : PySem.W.nsIn K mainGlobals "_law_bytes" = some (some (.ref f_law_bytes)))
    (l_law_bytes : K.lookup f_law_bytes = some ⟨oc_law_bytes, od_law_bytes, .func (PySem.W.fnOf "_law_bytes" "_law_bytes" (defArgs s_law_bytes) (defBody s_law_bytes) (defScope s_law_bytes) .none kV_law_bytes dc_law_bytes pm_law_bytes an_law_bytes cd_law_bytes ct_law_bytes), sl_law_bytes⟩)
    (cd_law_bytes_ : PySem.W.codeIn K cd_law_bytes "_law_bytes" = true)
    (kf_law_bytes : PySem.W.keepIn K (.ref f_law_bytes) = true)
    (an_law_figures_ : PySem.W.nsIn K mainGlobals "_law_figures" = some (some (.ref f_law_figures)))
    (l_law_figures : K.lookup f_law_figures = some ⟨oc_law_figures, od_law_figures, .func (PySem.W.fnOf "_law_figures" "_law_figures" (defArgs s_law_figures) (defBody s_law_figures) (defScope s_law_figures) .none kV_law_figures dc_law_figures pm_law_figures an_law_figures cd_law_figures ct_law_figures), sl_law_figures⟩)
    (cd_law_figures_ : PySem.W.codeIn K cd_law_figures "_law_figures" = true)
    (kf_law_figures : PySem.W.keepIn K (.ref f_law_figures) = true)
    (an_law_parts_ : PySem.W.nsIn K mainGlobals "_law_parts" = some (some (.ref f_law_parts)))
    (l_law_parts : K.lookup f_law_parts = some ⟨oc_law_parts, od_law_parts, .func (PySem.W.fnOf "_law_parts" "_law_parts" (defArgs s_law_parts) (defBody s_law_parts) (defScope s_law_parts) .none kV_law_parts dc_law_parts pm_law_parts an_law_parts cd_law_parts ct_law_parts), sl_law_parts⟩)
    (cd_law_parts_ : PySem.W.codeIn K cd_law_parts "_law_parts" = true)
    (kf_law_parts : PySem.W.keepIn K (.ref f_law_parts) = true)
    (an_law_number_at_ : PySem.W.nsIn K mainGlobals "_law_number_at" = some (some (.ref f_law_number_at)))
    (l_law_number_at : K.lookup f_law_number_at = some ⟨oc_law_number_at, od_law_number_at, .func (PySem.W.fnOf "_law_number_at" "_law_number_at" (defArgs s_law_number_at) (defBody s_law_number_at) (defScope s_law_number_at) .none kV_law_number_at dc_law_number_at pm_law_number_at an_law_number_at cd_law_number_at ct_law_number_at), sl_law_number_at⟩)
    (cd_law_number_at_ : PySem.W.codeIn K cd_law_number_at "_law_number_at" = true)
    (kf_law_number_at : PySem.W.keepIn K (.ref f_law_number_at) = true)
    (an_law_led_ : PySem.W.nsIn K mainGlobals "_law_led" = some (some (.ref f_law_led)))
    (l_law_led : K.lookup f_law_led = some ⟨oc_law_led, od_law_led, .func (PySem.W.fnOf "_law_led" "_law_led" (defArgs s_law_led) (defBody s_law_led) (defScope s_law_led) .none kV_law_led dc_law_led pm_law_led an_law_led cd_law_led ct_law_led), sl_law_led⟩)
    (cd_law_led_ : PySem.W.codeIn K cd_law_led "_law_led" = true)
    (kf_law_led : PySem.W.keepIn K (.ref f_law_led) = true)
    (an_law_near_row_ : PySem.W.nsIn K mainGlobals "_law_near_row" = some (some (.ref f_law_near_row)))
    (l_law_near_row : K.lookup f_law_near_row = some ⟨oc_law_near_row, od_law_near_row, .func (PySem.W.fnOf "_law_near_row" "_law_near_row" (defArgs s_law_near_row) (defBody s_law_near_row) (defScope s_law_near_row) .none kV_law_near_row dc_law_near_row pm_law_near_row an_law_near_row cd_law_near_row ct_law_near_row), sl_law_near_row⟩)
    (cd_law_near_row_ : PySem.W.codeIn K cd_law_near_row "_law_near_row" = true)
    (kf_law_near_row : PySem.W.keepIn K (.ref f_law_near_row) = true)
    (an_is_row_ : PySem.W.nsIn K mainGlobals "is_row" = some (some (.ref f_is_row)))
    (l_is_row : K.lookup f_is_row = some ⟨oc_is_row, od_is_row, .func (PySem.W.fnOf "is_row" "is_row" (defArgs s_is_row) (defBody s_is_row) (defScope s_is_row) .none kV_is_row dc_is_row pm_is_row an_is_row cd_is_row ct_is_row), sl_is_row⟩)
    (cd_is_row_ : PySem.W.codeIn K cd_is_row "is_row" = true)
    (kf_is_row : PySem.W.keepIn K (.ref f_is_row) = true)
    (an_check_rows_ : PySem.W.nsIn K mainGlobals "_check_rows" = some (some (.ref f_check_rows)))
    (l_check_rows : K.lookup f_check_rows = some ⟨oc_check_rows, od_check_rows, .func (PySem.W.fnOf "_check_rows" "_check_rows" (defArgs s_check_rows) (defBody s_check_rows) (defScope s_check_rows) .none kV_check_rows dc_check_rows pm_check_rows an_check_rows cd_check_rows ct_check_rows), sl_check_rows⟩)
    (cd_check_rows_ : PySem.W.codeIn K cd_check_rows "_check_rows" = true)
    (kf_check_rows : PySem.W.keepIn K (.ref f_check_rows) = true)
    (an_many_alike_ : PySem.W.nsIn K mainGlobals "_many_alike" = some (some (.ref f_many_alike)))
    (l_many_alike : K.lookup f_many_alike = some ⟨oc_many_alike, od_many_alike, .func (PySem.W.fnOf "_many_alike" "_many_alike" (defArgs s_many_alike) (defBody s_many_alike) (defScope s_many_alike) .none kV_many_alike dc_many_alike pm_many_alike an_many_alike cd_many_alike ct_many_alike), sl_many_alike⟩)
    (cd_many_alike_ : PySem.W.codeIn K cd_many_alike "_many_alike" = true)
    (kf_many_alike : PySem.W.keepIn K (.ref f_many_alike) = true)
    (an_is_int_ : PySem.W.nsIn K mainGlobals "is_int" = some (some (.ref f_is_int)))
    (l_is_int : K.lookup f_is_int = some ⟨oc_is_int, od_is_int, .func (PySem.W.fnOf "is_int" "is_int" (defArgs s_is_int) (defBody s_is_int) (defScope s_is_int) .none kV_is_int dc_is_int pm_is_int an_is_int cd_is_int ct_is_int), sl_is_int⟩)
    (cd_is_int_ : PySem.W.codeIn K cd_is_int "is_int" = true)
    (kf_is_int : PySem.W.keepIn K (.ref f_is_int) = true)
    (an_is_number_ : PySem.W.nsIn K mainGlobals "is_number" = some (some (.ref f_is_number)))
    (l_is_number : K.lookup f_is_number = some ⟨oc_is_number, od_is_number, .func (PySem.W.fnOf "is_number" "is_number" (defArgs s_is_number) (defBody s_is_number) (defScope s_is_number) .none kV_is_number dc_is_number pm_is_number an_is_number cd_is_number ct_is_number), sl_is_number⟩)
    (cd_is_number_ : PySem.W.codeIn K cd_is_number "is_number" = true)
    (kf_is_number : PySem.W.keepIn K (.ref f_is_number) = true)
    (an_is_number_below_ : PySem.W.nsIn K mainGlobals "is_number_below" = some (some (.ref f_is_number_below)))
    (l_is_number_below : K.lookup f_is_number_below = some ⟨oc_is_number_below, od_is_number_below, .func (PySem.W.fnOf "is_number_below" "is_number_below" (defArgs s_is_number_below) (defBody s_is_number_below) (defScope s_is_number_below) .none kV_is_number_below dc_is_number_below pm_is_number_below an_is_number_below cd_is_number_below ct_is_number_below), sl_is_number_below⟩)
    (cd_is_number_below_ : PySem.W.codeIn K cd_is_number_below "is_number_below" = true)
    (kf_is_number_below : PySem.W.keepIn K (.ref f_is_number_below) = true)
    (an_whole_ : PySem.W.nsIn K mainGlobals "whole" = some (some (.ref f_whole)))
    (l_whole : K.lookup f_whole = some ⟨oc_whole, od_whole, .func (PySem.W.fnOf "whole" "whole" (defArgs s_whole) (defBody s_whole) (defScope s_whole) .none kV_whole dc_whole pm_whole an_whole cd_whole ct_whole), sl_whole⟩)
    (cd_whole_ : PySem.W.codeIn K cd_whole "whole" = true)
    (kf_whole : PySem.W.keepIn K (.ref f_whole) = true)
    (an_part_ : PySem.W.nsIn K mainGlobals "_part" = some (some (.ref f_part)))
    (l_part : K.lookup f_part = some ⟨oc_part, od_part, .func (PySem.W.fnOf "_part" "_part" (defArgs s_part) (defBody s_part) (defScope s_part) .none kV_part dc_part pm_part an_part cd_part ct_part), sl_part⟩)
    (cd_part_ : PySem.W.codeIn K cd_part "_part" = true)
    (kf_part : PySem.W.keepIn K (.ref f_part) = true)
    (an_change_ : PySem.W.nsIn K mainGlobals "change" = some (some (.ref f_change)))
    (l_change : K.lookup f_change = some ⟨oc_change, od_change, .func (PySem.W.fnOf "change" "change" (defArgs s_change) (defBody s_change) (defScope s_change) .none kV_change dc_change pm_change an_change cd_change ct_change), sl_change⟩)
    (cd_change_ : PySem.W.codeIn K cd_change "change" = true)
    (kf_change : PySem.W.keepIn K (.ref f_change) = true)
    (an_law_is_integer_ : PySem.W.nsIn K mainGlobals "_law_is_integer" = some (some (.ref f_law_is_integer)))
    (l_law_is_integer : K.lookup f_law_is_integer = some ⟨oc_law_is_integer, od_law_is_integer, .func (PySem.W.fnOf "_law_is_integer" "_law_is_integer" (defArgs s_law_is_integer) (defBody s_law_is_integer) (defScope s_law_is_integer) .none kV_law_is_integer dc_law_is_integer pm_law_is_integer an_law_is_integer cd_law_is_integer ct_law_is_integer), sl_law_is_integer⟩)
    (cd_law_is_integer_ : PySem.W.codeIn K cd_law_is_integer "_law_is_integer" = true)
    (kf_law_is_integer : PySem.W.keepIn K (.ref f_law_is_integer) = true)
    (an_law_same_ : PySem.W.nsIn K mainGlobals "_law_same" = some (some (.ref f_law_same)))
    (l_law_same : K.lookup f_law_same = some ⟨oc_law_same, od_law_same, .func (PySem.W.fnOf "_law_same" "_law_same" (defArgs s_law_same) (defBody s_law_same) (defScope s_law_same) .none kV_law_same dc_law_same pm_law_same an_law_same cd_law_same ct_law_same), sl_law_same⟩)
    (cd_law_same_ : PySem.W.codeIn K cd_law_same "_law_same" = true)
    (kf_law_same : PySem.W.keepIn K (.ref f_law_same) = true)
    (an_whole_at_ : PySem.W.nsIn K mainGlobals "whole_at" = some (some (.ref f_whole_at)))
    (l_whole_at : K.lookup f_whole_at = some ⟨oc_whole_at, od_whole_at, .func (PySem.W.fnOf "whole_at" "whole_at" (defArgs s_whole_at) (defBody s_whole_at) (defScope s_whole_at) .none kV_whole_at dc_whole_at pm_whole_at an_whole_at cd_whole_at ct_whole_at), sl_whole_at⟩)
    (cd_whole_at_ : PySem.W.codeIn K cd_whole_at "whole_at" = true)
    (kf_whole_at : PySem.W.keepIn K (.ref f_whole_at) = true)
    (an_part_at_ : PySem.W.nsIn K mainGlobals "_part_at" = some (some (.ref f_part_at)))
    (l_part_at : K.lookup f_part_at = some ⟨oc_part_at, od_part_at, .func (PySem.W.fnOf "_part_at" "_part_at" (defArgs s_part_at) (defBody s_part_at) (defScope s_part_at) .none kV_part_at dc_part_at pm_part_at an_part_at cd_part_at ct_part_at), sl_part_at⟩)
    (cd_part_at_ : PySem.W.codeIn K cd_part_at "_part_at" = true)
    (kf_part_at : PySem.W.keepIn K (.ref f_part_at) = true)
    (an_changed_ : PySem.W.nsIn K mainGlobals "changed" = some (some (.ref f_changed)))
    (l_changed : K.lookup f_changed = some ⟨oc_changed, od_changed, .func (PySem.W.fnOf "changed" "changed" (defArgs s_changed) (defBody s_changed) (defScope s_changed) .none kV_changed dc_changed pm_changed an_changed cd_changed ct_changed), sl_changed⟩)
    (cd_changed_ : PySem.W.codeIn K cd_changed "changed" = true)
    (kf_changed : PySem.W.keepIn K (.ref f_changed) = true)
    (an_is_change_ : PySem.W.nsIn K mainGlobals "is_change" = some (some (.ref f_is_change)))
    (l_is_change : K.lookup f_is_change = some ⟨oc_is_change, od_is_change, .func (PySem.W.fnOf "is_change" "is_change" (defArgs s_is_change) (defBody s_is_change) (defScope s_is_change) .none kV_is_change dc_is_change pm_is_change an_is_change cd_is_change ct_is_change), sl_is_change⟩)
    (cd_is_change_ : PySem.W.codeIn K cd_is_change "is_change" = true)
    (kf_is_change : PySem.W.keepIn K (.ref f_is_change) = true)
    (an_law_refused_ : PySem.W.nsIn K mainGlobals "_law_refused" = some (some (.ref f_law_refused)))
    (l_law_refused : K.lookup f_law_refused = some ⟨oc_law_refused, od_law_refused, .func (PySem.W.fnOf "_law_refused" "_law_refused" (defArgs s_law_refused) (defBody s_law_refused) (defScope s_law_refused) .none kV_law_refused dc_law_refused pm_law_refused an_law_refused cd_law_refused ct_law_refused), sl_law_refused⟩)
    (cd_law_refused_ : PySem.W.codeIn K cd_law_refused "_law_refused" = true)
    (kf_law_refused : PySem.W.keepIn K (.ref f_law_refused) = true)
    (an_law_told_ : PySem.W.nsIn K mainGlobals "_law_told" = some (some (.ref f_law_told)))
    (l_law_told : K.lookup f_law_told = some ⟨oc_law_told, od_law_told, .func (PySem.W.fnOf "_law_told" "_law_told" (defArgs s_law_told) (defBody s_law_told) (defScope s_law_told) .none kV_law_told dc_law_told pm_law_told an_law_told cd_law_told ct_law_told), sl_law_told⟩)
    (cd_law_told_ : PySem.W.codeIn K cd_law_told "_law_told" = true)
    (kf_law_told : PySem.W.keepIn K (.ref f_law_told) = true)
    (an_law_is_within_ : PySem.W.nsIn K mainGlobals "_law_is_within" = some (some (.ref f_law_is_within)))
    (l_law_is_within : K.lookup f_law_is_within = some ⟨oc_law_is_within, od_law_is_within, .func (PySem.W.fnOf "_law_is_within" "_law_is_within" (defArgs s_law_is_within) (defBody s_law_is_within) (defScope s_law_is_within) .none kV_law_is_within dc_law_is_within pm_law_is_within an_law_is_within cd_law_is_within ct_law_is_within), sl_law_is_within⟩)
    (cd_law_is_within_ : PySem.W.codeIn K cd_law_is_within "_law_is_within" = true)
    (kf_law_is_within : PySem.W.keepIn K (.ref f_law_is_within) = true)
    (an_law_is_row_ : PySem.W.nsIn K mainGlobals "_law_is_row" = some (some (.ref f_law_is_row)))
    (l_law_is_row : K.lookup f_law_is_row = some ⟨oc_law_is_row, od_law_is_row, .func (PySem.W.fnOf "_law_is_row" "_law_is_row" (defArgs s_law_is_row) (defBody s_law_is_row) (defScope s_law_is_row) .none kV_law_is_row dc_law_is_row pm_law_is_row an_law_is_row cd_law_is_row ct_law_is_row), sl_law_is_row⟩)
    (cd_law_is_row_ : PySem.W.codeIn K cd_law_is_row "_law_is_row" = true)
    (kf_law_is_row : PySem.W.keepIn K (.ref f_law_is_row) = true)
    (an_law_ : PySem.W.nsIn K mainGlobals "law" = some (some (.ref f_law)))
    (l_law : K.lookup f_law = some ⟨oc_law, od_law, .func (PySem.W.fnOf "law" "law" (defArgs s_law) (defBody s_law) (defScope s_law) .none kV_law dc_law pm_law an_law cd_law ct_law), sl_law⟩)
    (cd_law_ : PySem.W.codeIn K cd_law "law" = true)
    (kf_law : PySem.W.keepIn K (.ref f_law) = true) :
    ∃ fd : FuncData, (∀ (s : Shared) (v : Value), BindsTo s fd ⟨[v], []⟩ [("script", v)]) ∧ ∀ base : Heap, K.In base → base.Ns mainGlobals mg → FnOk P w K mg base (L2.CX P w) 11 fa fd ["script"] (spLaw K) := by
  let A : Ads := (⟨C_BadChange, C_BadRow, C_NoNumber, C_NoRow⟩ : Ads)
  have e := hfa.symm.trans (PySem.W.mg_of X G an_law_)
  cases e
  have T : Txt K mg A := {
    z_all := PySem.W.mg_none_of X G z_all,
    z_bool := PySem.W.mg_none_of X G z_bool,
    z_enumerate := PySem.W.mg_none_of X G z_enumerate,
    z_int := PySem.W.mg_none_of X G z_int,
    z_isinstance := PySem.W.mg_none_of X G z_isinstance,
    z_len := PySem.W.mg_none_of X G z_len,
    z_list := PySem.W.mg_none_of X G z_list,
    z_max := PySem.W.mg_none_of X G z_max,
    z_min := PySem.W.mg_none_of X G z_min,
    z_range := PySem.W.mg_none_of X G z_range,
    z_str := PySem.W.mg_none_of X G z_str,
    z_tuple := PySem.W.mg_none_of X G z_tuple,
    z_zip := PySem.W.mg_none_of X G z_zip,
    tk_BYTES := tk_BYTES, c_BYTES := PySem.W.mg_of X G c_BYTES,
    tk_KEEP := tk_KEEP, c_KEEP := PySem.W.mg_of X G c_KEEP,
    tk_LEAVE_OUT := tk_LEAVE_OUT, c_LEAVE_OUT := PySem.W.mg_of X G c_LEAVE_OUT,
    tk_MOST_BYTES := tk_MOST_BYTES, c_MOST_BYTES := PySem.W.mg_of X G c_MOST_BYTES,
    tk_MOST_FIGURES := tk_MOST_FIGURES, c_MOST_FIGURES := PySem.W.mg_of X G c_MOST_FIGURES,
    tk_PUT_IN := tk_PUT_IN, c_PUT_IN := PySem.W.mg_of X G c_PUT_IN,
    tk_WHOLES := tk_WHOLES, c_WHOLES := PySem.W.mg_of X G c_WHOLES,
    e_NoNumber := ⟨PySem.W.mg_of X G aC_NoNumber, qq_NoNumber, kp_NoNumber, bb_NoNumber, tt_NoNumber⟩,
    e_NoRow := ⟨PySem.W.mg_of X G aC_NoRow, qq_NoRow, kp_NoRow, bb_NoRow, tt_NoRow⟩,
    gg_BadChange := PySem.W.mg_of X G aC_BadChange,
    gg_BadRow := PySem.W.mg_of X G aC_BadRow,
    gg_NoRow := PySem.W.mg_of X G aC_NoRow,
    xf_BadChange := ⟨xga_BadChange, xgg_BadChange, bb_BadChange, xhd_BadChange⟩,
    xn_BadChange_place := xnf_BadChange_place,
    x_BadChange := (List.forall_mem_cons.mpr ⟨exm_by bb_BadChange ic_BadChange bb_BadChange tt_BadChange sb_BadChange_BadChange, (List.forall_mem_cons.mpr ⟨exm_by bb_BadRow ic_BadChange bb_BadChange tt_BadChange sb_BadRow_BadChange, (List.forall_mem_cons.mpr ⟨exm_by bb_NoNumber ic_BadChange bb_BadChange tt_BadChange sb_NoNumber_BadChange, (List.forall_mem_cons.mpr ⟨exm_by bb_NoRow ic_BadChange bb_BadChange tt_BadChange sb_NoRow_BadChange, (fun _ h => nomatch h)⟩)⟩)⟩)⟩),
    x_BadRow := (List.forall_mem_cons.mpr ⟨exm_by bb_BadChange ic_BadRow bb_BadRow tt_BadRow sb_BadChange_BadRow, (List.forall_mem_cons.mpr ⟨exm_by bb_BadRow ic_BadRow bb_BadRow tt_BadRow sb_BadRow_BadRow, (List.forall_mem_cons.mpr ⟨exm_by bb_NoNumber ic_BadRow bb_BadRow tt_BadRow sb_NoNumber_BadRow, (List.forall_mem_cons.mpr ⟨exm_by bb_NoRow ic_BadRow bb_BadRow tt_BadRow sb_NoRow_BadRow, (fun _ h => nomatch h)⟩)⟩)⟩)⟩),
    x_NoRow := (List.forall_mem_cons.mpr ⟨exm_by bb_BadChange ic_NoRow bb_NoRow tt_NoRow sb_BadChange_NoRow, (List.forall_mem_cons.mpr ⟨exm_by bb_BadRow ic_NoRow bb_NoRow tt_NoRow sb_BadRow_NoRow, (List.forall_mem_cons.mpr ⟨exm_by bb_NoNumber ic_NoRow bb_NoRow tt_NoRow sb_NoNumber_NoRow, (List.forall_mem_cons.mpr ⟨exm_by bb_NoRow ic_NoRow bb_NoRow tt_NoRow sb_NoRow_NoRow, (fun _ h => nomatch h)⟩)⟩)⟩)⟩) }
  have O_BadChange : OexC K C_BadChange := ⟨⟨_, _, _, _, _, _, _, _, _, _, _, _, _, _, _, xl_BadChange, rb_BadChange⟩, xs_BadChange, bb_BadChange, tt_BadChange, kp_BadChange⟩
  have Fi_BadChange := fun_mk (st := si_BadChange) l_i_BadChange cd_i_BadChange_ kf_i_BadChange
  have bi_BadChange := Fi_BadChange.binds (ps := ["self", "place"]) fun _ _ _ _ _ _ us hl => match us, hl with | [_, _], _ => rfl
  have O_BadRow : OexC K C_BadRow := ⟨⟨_, _, _, _, _, _, _, _, _, _, _, _, _, _, _, xl_BadRow, rb_BadRow⟩, xs_BadRow, bb_BadRow, tt_BadRow, kp_BadRow⟩
  have Fi_BadRow := fun_mk (st := si_BadRow) l_i_BadRow cd_i_BadRow_ kf_i_BadRow
  have bi_BadRow := Fi_BadRow.binds (ps := ["self", "place"]) fun _ _ _ _ _ _ us hl => match us, hl with | [_, _], _ => rfl
  have F_law_hand := fun_mk (st := s_law_hand) l_law_hand cd_law_hand_ kf_law_hand
  have b_law_hand := F_law_hand.binds (ps := ["script"]) fun _ _ _ _ _ _ us hl => match us, hl with | [_], _ => rfl
  have F_law_take := fun_mk (st := s_law_take) l_law_take cd_law_take_ kf_law_take
  have b_law_take := F_law_take.binds (ps := ["hand", "many"]) fun _ _ _ _ _ _ us hl => match us, hl with | [_, _], _ => rfl
  have F_law_pick := fun_mk (st := s_law_pick) l_law_pick cd_law_pick_ kf_law_pick
  have b_law_pick := F_law_pick.binds (ps := ["hand", "things"]) fun _ _ _ _ _ _ us hl => match us, hl with | [_, _], _ => rfl
  have F_law_bytes := fun_mk (st := s_law_bytes) l_law_bytes cd_law_bytes_ kf_law_bytes
  have b_law_bytes := F_law_bytes.binds (ps := ["hand", "most"]) fun _ _ _ _ _ _ us hl => match us, hl with | [_, _], _ => rfl
  have F_law_figures := fun_mk (st := s_law_figures) l_law_figures cd_law_figures_ kf_law_figures
  have b_law_figures := F_law_figures.binds (ps := ["number"]) fun _ _ _ _ _ _ us hl => match us, hl with | [_], _ => rfl
  have F_law_parts := fun_mk (st := s_law_parts) l_law_parts cd_law_parts_ kf_law_parts
  have b_law_parts := F_law_parts.binds (ps := ["hand", "one"]) fun _ _ _ _ _ _ us hl => match us, hl with | [_, _], _ => rfl
  have F_law_number_at := fun_mk (st := s_law_number_at) l_law_number_at cd_law_number_at_ kf_law_number_at
  have b_law_number_at := F_law_number_at.binds (ps := ["row", "at"]) fun _ _ _ _ _ _ us hl => match us, hl with | [_, _], _ => rfl
  have F_law_led := fun_mk (st := s_law_led) l_law_led cd_law_led_ kf_law_led
  have b_law_led := F_law_led.binds (ps := ["one", "change_row"]) fun _ _ _ _ _ _ us hl => match us, hl with | [_, _], _ => rfl
  have F_law_near_row := fun_mk (st := s_law_near_row) l_law_near_row cd_law_near_row_ kf_law_near_row
  have b_law_near_row := F_law_near_row.binds (ps := ["hand", "one"]) fun _ _ _ _ _ _ us hl => match us, hl with | [_, _], _ => rfl
  have F_is_row := fun_mk (st := s_is_row) l_is_row cd_is_row_ kf_is_row
  have b_is_row := F_is_row.binds (ps := ["thing"]) fun _ _ _ _ _ _ us hl => match us, hl with | [_], _ => rfl
  have F_check_rows := fun_mk (st := s_check_rows) l_check_rows cd_check_rows_ kf_check_rows
  have b_check_rows := F_check_rows.binds (ps := ["rows"]) fun _ _ _ _ _ _ us hl => match us, hl with | [_], _ => rfl
  have F_many_alike := fun_mk (st := s_many_alike) l_many_alike cd_many_alike_ kf_many_alike
  have b_many_alike := F_many_alike.binds (ps := ["one", "other"]) fun _ _ _ _ _ _ us hl => match us, hl with | [_, _], _ => rfl
  have F_is_int := fun_mk (st := s_is_int) l_is_int cd_is_int_ kf_is_int
  have b_is_int := F_is_int.binds (ps := ["thing"]) fun _ _ _ _ _ _ us hl => match us, hl with | [_], _ => rfl
  have F_is_number := fun_mk (st := s_is_number) l_is_number cd_is_number_ kf_is_number
  have b_is_number := F_is_number.binds (ps := ["thing"]) fun _ _ _ _ _ _ us hl => match us, hl with | [_], _ => rfl
  have F_is_number_below := fun_mk (st := s_is_number_below) l_is_number_below cd_is_number_below_ kf_is_number_below
  have b_is_number_below := F_is_number_below.binds (ps := ["thing", "limit"]) fun _ _ _ _ _ _ us hl => match us, hl with | [_, _], _ => rfl
  have F_whole := fun_mk (st := s_whole) l_whole cd_whole_ kf_whole
  have b_whole := F_whole.binds (ps := ["number"]) fun _ _ _ _ _ _ us hl => match us, hl with | [_], _ => rfl
  have F_part := fun_mk (st := s_part) l_part cd_part_ kf_part
  have b_part := F_part.binds (ps := ["kind", "many"]) fun _ _ _ _ _ _ us hl => match us, hl with | [_, _], _ => rfl
  have F_change := fun_mk (st := s_change) l_change cd_change_ kf_change
  have b_change := F_change.binds (ps := ["one", "other"]) fun _ _ _ _ _ _ us hl => match us, hl with | [_, _], _ => rfl
  have F_law_is_integer := fun_mk (st := s_law_is_integer) l_law_is_integer cd_law_is_integer_ kf_law_is_integer
  have b_law_is_integer := F_law_is_integer.binds (ps := ["thing"]) fun _ _ _ _ _ _ us hl => match us, hl with | [_], _ => rfl
  have F_law_same := fun_mk (st := s_law_same) l_law_same cd_law_same_ kf_law_same
  have b_law_same := F_law_same.binds (ps := ["actual", "due"]) fun _ _ _ _ _ _ us hl => match us, hl with | [_, _], _ => rfl
  have F_whole_at := fun_mk (st := s_whole_at) l_whole_at cd_whole_at_ kf_whole_at
  have b_whole_at := F_whole_at.binds (ps := ["row", "at"]) fun _ _ _ _ _ _ us hl => match us, hl with | [_, _], _ => rfl
  have F_part_at := fun_mk (st := s_part_at) l_part_at cd_part_at_ kf_part_at
  have b_part_at := F_part_at.binds (ps := ["parts", "at"]) fun _ _ _ _ _ _ us hl => match us, hl with | [_, _], _ => rfl
  have F_changed := fun_mk (st := s_changed) l_changed cd_changed_ kf_changed
  have b_changed := F_changed.binds (ps := ["one", "parts"]) fun _ _ _ _ _ _ us hl => match us, hl with | [_, _], _ => rfl
  have F_is_change := fun_mk (st := s_is_change) l_is_change cd_is_change_ kf_is_change
  have b_is_change := F_is_change.binds (ps := ["one", "other", "thing"]) fun _ _ _ _ _ _ us hl => match us, hl with | [_, _, _], _ => rfl
  have F_law_refused := fun_mk (st := s_law_refused) l_law_refused cd_law_refused_ kf_law_refused
  have b_law_refused := F_law_refused.binds (ps := ["one", "other"]) fun _ _ _ _ _ _ us hl => match us, hl with | [_, _], _ => rfl
  have F_law_told := fun_mk (st := s_law_told) l_law_told cd_law_told_ kf_law_told
  have b_law_told := F_law_told.binds (ps := ["one", "thing"]) fun _ _ _ _ _ _ us hl => match us, hl with | [_, _], _ => rfl
  have F_law_is_within := fun_mk (st := s_law_is_within) l_law_is_within cd_law_is_within_ kf_law_is_within
  have b_law_is_within := F_law_is_within.binds (ps := ["thing", "least", "most"]) fun _ _ _ _ _ _ us hl => match us, hl with | [_, _, _], _ => rfl
  have F_law_is_row := fun_mk (st := s_law_is_row) l_law_is_row cd_law_is_row_ kf_law_is_row
  have b_law_is_row := F_law_is_row.binds (ps := ["thing"]) fun _ _ _ _ _ _ us hl => match us, hl with | [_], _ => rfl
  have F_law := fun_mk (st := s_law) l_law cd_law_ kf_law
  refine ⟨PySem.W.fnOf "law" "law" (defArgs s_law) (defBody s_law) (defScope s_law) .none kV_law dc_law pm_law an_law cd_law ct_law, fun s v => .of_eq rfl, fun base _ _ => ?_⟩
  have K_BadChange : Er1 P w K mg base "BadChange" A.BadChange "place" := ⟨PySem.W.mg_of X G aC_BadChange, O_BadChange, _, _, _, xi_BadChange, xt_BadChange, bi_BadChange, ok_err1 Fi_BadChange sci_BadChange O_BadChange xn_BadChange rfl (fun _ _ _ _ _ _ => pv 0) (fun _ _ _ _ _ _ => pv 1)⟩
  have K_H_BadChange : Er1H P w K mg base "BadChange" A.BadChange "place" := ⟨PySem.W.mg_of X G aC_BadChange, O_BadChange, _, _, _, xi_BadChange, xt_BadChange, bi_BadChange, ok_err1H Fi_BadChange sci_BadChange O_BadChange xn_BadChange rfl (fun _ _ _ _ _ _ _ => pv 0) (fun _ _ _ _ _ _ _ => pv 1)⟩
  have K_BadRow : Er1 P w K mg base "BadRow" A.BadRow "place" := ⟨PySem.W.mg_of X G aC_BadRow, O_BadRow, _, _, _, xi_BadRow, xt_BadRow, bi_BadRow, ok_err1 Fi_BadRow sci_BadRow O_BadRow xn_BadRow rfl (fun _ _ _ _ _ _ => pv 0) (fun _ _ _ _ _ _ => pv 1)⟩
  have K_law_hand : Kn P w K mg base "_law_hand" 1 ["script"] (d_law_hand A) := ⟨_, _, PySem.W.mg_of X G an_law_hand_, kf_law_hand, b_law_hand, ok_law_hand T F_law_hand⟩
  have K_law_take : Kn P w K mg base "_law_take" 1 ["hand", "many"] (d_law_take A) := ⟨_, _, PySem.W.mg_of X G an_law_take_, kf_law_take, b_law_take, ok_law_take T F_law_take⟩
  have K_law_pick : Kn P w K mg base "_law_pick" 2 ["hand", "things"] (d_law_pick A) := ⟨_, _, PySem.W.mg_of X G an_law_pick_, kf_law_pick, b_law_pick, ok_law_pick T F_law_pick K_law_take⟩
  have K_law_bytes : Kn P w K mg base "_law_bytes" 3 ["hand", "most"] (d_law_bytes A) := ⟨_, _, PySem.W.mg_of X G an_law_bytes_, kf_law_bytes, b_law_bytes, ok_law_bytes T F_law_bytes K_law_take K_law_pick⟩
  have K_law_figures : Kn P w K mg base "_law_figures" 1 ["number"] (d_law_figures A) := ⟨_, _, PySem.W.mg_of X G an_law_figures_, kf_law_figures, b_law_figures, ok_law_figures T F_law_figures⟩
  have K_law_parts : Kn P w K mg base "_law_parts" 4 ["hand", "one"] (d_law_parts A) := ⟨_, _, PySem.W.mg_of X G an_law_parts_, kf_law_parts, b_law_parts, ok_law_parts T F_law_parts K_law_take K_law_pick K_law_figures K_law_bytes⟩
  have K_law_number_at : Kn P w K mg base "_law_number_at" 1 ["row", "at"] (d_law_number_at A) := ⟨_, _, PySem.W.mg_of X G an_law_number_at_, kf_law_number_at, b_law_number_at, ok_law_number_at T F_law_number_at⟩
  have K_law_led : Kn P w K mg base "_law_led" 2 ["one", "change_row"] (d_law_led A) := ⟨_, _, PySem.W.mg_of X G an_law_led_, kf_law_led, b_law_led, ok_law_led T F_law_led K_law_number_at⟩
  have K_law_near_row : Kn P w K mg base "_law_near_row" 4 ["hand", "one"] (d_law_near_row A) := ⟨_, _, PySem.W.mg_of X G an_law_near_row_, kf_law_near_row, b_law_near_row, ok_law_near_row T F_law_near_row K_law_take K_law_bytes⟩
  have K_is_row : Kn P w K mg base "is_row" 1 ["thing"] (d_is_row A) := ⟨_, _, PySem.W.mg_of X G an_is_row_, kf_is_row, b_is_row, ok_is_row T F_is_row⟩
  have K_check_rows : Kn P w K mg base "_check_rows" 3 ["rows"] (d_check_rows A) := ⟨_, _, PySem.W.mg_of X G an_check_rows_, kf_check_rows, b_check_rows, ok_check_rows T F_check_rows K_is_row⟩
  have K_many_alike : Kn P w K mg base "_many_alike" 1 ["one", "other"] (d_many_alike A) := ⟨_, _, PySem.W.mg_of X G an_many_alike_, kf_many_alike, b_many_alike, ok_many_alike T F_many_alike⟩
  have K_is_int : Kn P w K mg base "is_int" 1 ["thing"] (d_is_int A) := ⟨_, _, PySem.W.mg_of X G an_is_int_, kf_is_int, b_is_int, ok_is_int T F_is_int⟩
  have K_is_number : Kn P w K mg base "is_number" 2 ["thing"] (d_is_number A) := ⟨_, _, PySem.W.mg_of X G an_is_number_, kf_is_number, b_is_number, ok_is_number T F_is_number K_is_int⟩
  have K_is_number_below : Kn P w K mg base "is_number_below" 3 ["thing", "limit"] (d_is_number_below A) := ⟨_, _, PySem.W.mg_of X G an_is_number_below_, kf_is_number_below, b_is_number_below, ok_is_number_below T F_is_number_below K_is_number⟩
  have K_whole : Kn P w K mg base "whole" 4 ["number"] (d_whole A) := ⟨_, _, PySem.W.mg_of X G an_whole_, kf_whole, b_whole, ok_whole T F_whole K_is_number_below⟩
  have K_part : Kn P w K mg base "_part" 5 ["kind", "many"] (d_part A) := ⟨_, _, PySem.W.mg_of X G an_part_, kf_part, b_part, ok_part T F_part K_whole⟩
  have K_change : Kn P w K mg base "change" 6 ["one", "other"] (d_change A) := ⟨_, _, PySem.W.mg_of X G an_change_, kf_change, b_change, ok_change T F_change K_check_rows K_many_alike K_part⟩
  have K_law_is_integer : Kn P w K mg base "_law_is_integer" 1 ["thing"] (d_law_is_integer A) := ⟨_, _, PySem.W.mg_of X G an_law_is_integer_, kf_law_is_integer, b_law_is_integer, ok_law_is_integer T F_law_is_integer⟩
  have R_law_same : ∀ n : Nat, Kn P w K mg base "_law_same" (2 + n) ["actual", "due"] (d_law_same_ A n) := fun n => Nat.rec ⟨_, _, PySem.W.mg_of X G an_law_same_, kf_law_same, b_law_same, fn_never⟩ (fun n ih => ⟨_, _, PySem.W.mg_of X G an_law_same_, kf_law_same, b_law_same, st_law_same T F_law_same K_law_is_integer (Nat.le_add_right _ _) ih⟩) n
  have K_law_same : Kn P w K mg base "_law_same" 10 ["actual", "due"] (d_law_same A) := R_law_same 8
  have K_whole_at : KnN P w K mg base "whole_at" 3 ["row", "at"] (d_whole_at A) := ⟨_, _, PySem.W.mg_of X G an_whole_at_, kf_whole_at, b_whole_at, ok_whole_at T F_whole_at K_BadRow⟩
  have K_part_at : Kn P w K mg base "_part_at" 4 ["parts", "at"] (d_part_at A) := ⟨_, _, PySem.W.mg_of X G an_part_at_, kf_part_at, b_part_at, ok_part_at T F_part_at K_whole_at K_BadChange K_H_BadChange⟩
  have K_changed : Kn P w K mg base "changed" 5 ["one", "parts"] (d_changed A) := ⟨_, _, PySem.W.mg_of X G an_changed_, kf_changed, b_changed, ok_changed T F_changed K_check_rows K_part_at K_BadChange⟩
  have K_is_change : Kn P w K mg base "is_change" 6 ["one", "other", "thing"] (d_is_change A) := ⟨_, _, PySem.W.mg_of X G an_is_change_, kf_is_change, b_is_change, ok_is_change T F_is_change K_check_rows K_changed⟩
  have K_law_refused : Kn P w K mg base "_law_refused" 7 ["one", "other"] (d_law_refused A) := ⟨_, _, PySem.W.mg_of X G an_law_refused_, kf_law_refused, b_law_refused, ok_law_refused T F_law_refused K_change K_is_change⟩
  have K_law_told : Kn P w K mg base "_law_told" 6 ["one", "thing"] (d_law_told A) := ⟨_, _, PySem.W.mg_of X G an_law_told_, kf_law_told, b_law_told, ok_law_told T F_law_told K_changed⟩
  have K_law_is_within : Kn P w K mg base "_law_is_within" 2 ["thing", "least", "most"] (d_law_is_within A) := ⟨_, _, PySem.W.mg_of X G an_law_is_within_, kf_law_is_within, b_law_is_within, ok_law_is_within T F_law_is_within K_law_is_integer⟩
  have K_law_is_row : Kn P w K mg base "_law_is_row" 3 ["thing"] (d_law_is_row A) := ⟨_, _, PySem.W.mg_of X G an_law_is_row_, kf_law_is_row, b_law_is_row, ok_law_is_row T F_law_is_row K_law_is_within⟩
  exact (ok_law T F_law K_law_hand K_law_bytes K_law_take K_law_parts K_law_led K_law_told K_law_same K_law_near_row K_change K_law_is_row K_changed K_is_change K_law_pick K_law_refused).imp (law_imp (pure (⟨C_BadChange, C_BadRow, C_NoNumber, C_NoRow⟩ : Ads) ⟨(fun h => by have h : C_BadRow = C_BadChange := h; rw [h] at sb_BadRow_BadChange; rw [sb_BadChange_BadChange] at sb_BadRow_BadChange; cases sb_BadRow_BadChange), (fun h => by have h : C_NoNumber = C_BadChange := h; rw [h] at sb_NoNumber_BadChange; rw [sb_BadChange_BadChange] at sb_NoNumber_BadChange; cases sb_NoNumber_BadChange), (fun h => by have h : C_NoRow = C_BadChange := h; rw [h] at sb_NoRow_BadChange; rw [sb_BadChange_BadChange] at sb_NoRow_BadChange; cases sb_NoRow_BadChange), (fun h => by have h : C_BadChange = C_BadRow := h; rw [h] at sb_BadChange_BadRow; rw [sb_BadRow_BadRow] at sb_BadChange_BadRow; cases sb_BadChange_BadRow), (fun h => by have h : C_NoNumber = C_BadRow := h; rw [h] at sb_NoNumber_BadRow; rw [sb_BadRow_BadRow] at sb_NoNumber_BadRow; cases sb_NoNumber_BadRow), (fun h => by have h : C_NoRow = C_BadRow := h; rw [h] at sb_NoRow_BadRow; rw [sb_BadRow_BadRow] at sb_NoRow_BadRow; cases sb_NoRow_BadRow), (fun h => by have h : C_BadChange = C_NoRow := h; rw [h] at sb_BadChange_NoRow; rw [sb_NoRow_NoRow] at sb_BadChange_NoRow; cases sb_BadChange_NoRow), (fun h => by have h : C_BadRow = C_NoRow := h; rw [h] at sb_BadRow_NoRow; rw [sb_NoRow_NoRow] at sb_BadRow_NoRow; cases sb_BadRow_NoRow), (fun h => by have h : C_NoNumber = C_NoRow := h; rw [h] at sb_NoNumber_NoRow; rw [sb_NoRow_NoRow] at sb_NoNumber_NoRow; cases sb_NoNumber_NoRow)⟩))
theorem walk {l : PySem.W.OpenLaw} {q : Program} {loose : List Str} {XP : (Str → Option Value) → Heap → Prop} {YP : World → Heap → Prop} {d : DefRec} {K : Params → PySem.W.Frag} (hn : l.most = some 63) (hdf : d.params.defaults = [])
    (hY : ∀ (w : World) (h : Heap), YP w h → (K w.params).In h)
    (F : ∀ (w : World) (mg : Str → Option Value) (fa : Addr) (h : Heap), (K w.params).In h → h.Ns mainGlobals mg → mg d.name = some (.ref fa) →
      ∃ fd : FuncData, (∀ (s : Shared) (u : Value), BindsTo s fd ⟨[u], []⟩ [("script", u)]) ∧ ∀ base : Heap, (K w.params).In base → base.Ns mainGlobals mg → FnOk l.prog w (K w.params) mg base (L2.CX l.prog w) 11 fa fd ["script"] (spLaw (K w.params))) :
    PySem.W.WalkO q loose XP YP l.row.toRowW d [] (fun f vs => PySem.call f vs) :=
  L2.walk_of (n := 63) (k := 11) (x := "script") (CX := fun w => L2.CX l.prog w) (sp := fun w => spLaw (K w.params)) hn (by decide) hdf ⟨rfl, by decide, by decide⟩ hY F (fun w H a ns hl ho hS => ⟨a, ns, rfl, sc_of ho hS, hl, fun _ => rfl⟩) fun _ _ _ _ _ z => cx_never z
end
end Lw
open PySem PySem.W PyProof.Rows in
set_option maxRecDepth 100000 in
set_option maxHeartbeats 0 in
theorem PySem.Challenge.cw_allbrought_k26_whole_changes_of_rows_holds : PySem.Challenge.rw_allbrought_k26_whole_changes_of_rows.Holds := by
  w_on; o_law; k_head; (case hw => w_witness2)
  k_fill
  refine Lw.walk (l := PySem.Challenge.rw_allbrought_k26_whole_changes_of_rows) rfl rfl (fun w h Y => PySem.W.kIn_of Y) ?F
  case F =>
    intro w mg fa h KX G hmg
    refine' Lw.all_mk Lw.pure_law KX G hmg ?aC_BadChange ?aC_BadRow ?aC_NoNumber ?aC_NoRow ?z_all ?z_bool ?z_enumerate ?z_int ?z_isinstance ?z_len ?z_list ?z_max ?z_min ?z_range ?z_str ?z_tuple ?z_zip ?c_BYTES ?c_KEEP ?c_LEAVE_OUT ?c_MOST_BYTES ?c_MOST_FIGURES ?c_PUT_IN ?c_WHOLES ?bb_BadChange ?tt_BadChange ?kp_BadChange ?bb_BadRow ?tt_BadRow ?kp_BadRow ?bb_NoNumber ?tt_NoNumber ?kp_NoNumber ?bb_NoRow ?tt_NoRow ?kp_NoRow ?xga_BadChange ?xgg_BadChange ?xhd_BadChange ?xnf_BadChange_place ?qq_NoNumber ?qq_NoRow ?ic_BadChange ?sb_BadChange_BadChange ?sb_BadRow_BadChange ?sb_NoNumber_BadChange ?sb_NoRow_BadChange ?ic_BadRow ?sb_BadChange_BadRow ?sb_BadRow_BadRow ?sb_NoNumber_BadRow ?sb_NoRow_BadRow ?ic_NoRow ?sb_BadChange_NoRow ?sb_BadRow_NoRow ?sb_NoNumber_NoRow ?sb_NoRow_NoRow ?xl_BadChange ?rb_BadChange ?xs_BadChange ?xn_BadChange ?xi_BadChange ?l_i_BadChange ?cd_i_BadChange_ ?kf_i_BadChange ?xt_BadChange ?xl_BadRow ?rb_BadRow ?xs_BadRow ?xn_BadRow ?xi_BadRow ?l_i_BadRow ?cd_i_BadRow_ ?kf_i_BadRow ?xt_BadRow ?an_law_hand_ ?l_law_hand ?cd_law_hand_ ?kf_law_hand ?an_law_take_ ?l_law_take ?cd_law_take_ ?kf_law_take ?an_law_pick_ ?l_law_pick ?cd_law_pick_ ?kf_law_pick ?an_law_bytes_ ?l_law_bytes ?cd_law_bytes_ ?kf_law_bytes ?an_law_figures_ ?l_law_figures ?cd_law_figures_ ?kf_law_figures ?an_law_parts_ ?l_law_parts ?cd_law_parts_ ?kf_law_parts ?an_law_number_at_ ?l_law_number_at ?cd_law_number_at_ ?kf_law_number_at ?an_law_led_ ?l_law_led ?cd_law_led_ ?kf_law_led ?an_law_near_row_ ?l_law_near_row ?cd_law_near_row_ ?kf_law_near_row ?an_is_row_ ?l_is_row ?cd_is_row_ ?kf_is_row ?an_check_rows_ ?l_check_rows ?cd_check_rows_ ?kf_check_rows ?an_many_alike_ ?l_many_alike ?cd_many_alike_ ?kf_many_alike ?an_is_int_ ?l_is_int ?cd_is_int_ ?kf_is_int ?an_is_number_ ?l_is_number ?cd_is_number_ ?kf_is_number ?an_is_number_below_ ?l_is_number_below ?cd_is_number_below_ ?kf_is_number_below ?an_whole_ ?l_whole ?cd_whole_ ?kf_whole ?an_part_ ?l_part ?cd_part_ ?kf_part ?an_change_ ?l_change ?cd_change_ ?kf_change ?an_law_is_integer_ ?l_law_is_integer ?cd_law_is_integer_ ?kf_law_is_integer ?an_law_same_ ?l_law_same ?cd_law_same_ ?kf_law_same ?an_whole_at_ ?l_whole_at ?cd_whole_at_ ?kf_whole_at ?an_part_at_ ?l_part_at ?cd_part_at_ ?kf_part_at ?an_changed_ ?l_changed ?cd_changed_ ?kf_changed ?an_is_change_ ?l_is_change ?cd_is_change_ ?kf_is_change ?an_law_refused_ ?l_law_refused ?cd_law_refused_ ?kf_law_refused ?an_law_told_ ?l_law_told ?cd_law_told_ ?kf_law_told ?an_law_is_within_ ?l_law_is_within ?cd_law_is_within_ ?kf_law_is_within ?an_law_is_row_ ?l_law_is_row ?cd_law_is_row_ ?kf_law_is_row ?an_law_ ?l_law ?cd_law_ ?kf_law
    (case aC_BadChange => k_is)
    (case aC_BadRow => k_is)
    (case aC_NoNumber => k_is)
    (case aC_NoRow => k_is)
    (case z_all => k_is)
    (case z_bool => k_is)
    (case z_enumerate => k_is)
    (case z_int => k_is)
    (case z_isinstance => k_is)
    (case z_len => k_is)
    (case z_list => k_is)
    (case z_max => k_is)
    (case z_min => k_is)
    (case z_range => k_is)
    (case z_str => k_is)
    (case z_tuple => k_is)
    (case z_zip => k_is)
    (case c_BYTES => k_is)
    (case c_KEEP => k_is)
    (case c_LEAVE_OUT => k_is)
    (case c_MOST_BYTES => k_is)
    (case c_MOST_FIGURES => k_is)
    (case c_PUT_IN => k_is)
    (case c_WHOLES => k_is)
    (case bb_BadChange => k_is)
    (case tt_BadChange => k_is)
    (case kp_BadChange => k_is)
    (case bb_BadRow => k_is)
    (case tt_BadRow => k_is)
    (case kp_BadRow => k_is)
    (case bb_NoNumber => k_is)
    (case tt_NoNumber => k_is)
    (case kp_NoNumber => k_is)
    (case bb_NoRow => k_is)
    (case tt_NoRow => k_is)
    (case kp_NoRow => k_is)
    (case xga_BadChange => k_is)
    (case xgg_BadChange => k_is)
    (case xhd_BadChange => k_is)
    (case xnf_BadChange_place => k_is)
    (case qq_NoNumber => k_exc)
    (case qq_NoRow => k_exc)
    (case ic_BadChange => k_is)
    (case sb_BadChange_BadChange => first | rfl | k_is)
    (case sb_BadRow_BadChange => first | rfl | k_is)
    (case sb_NoNumber_BadChange => first | rfl | k_is)
    (case sb_NoRow_BadChange => first | rfl | k_is)
    (case ic_BadRow => k_is)
    (case sb_BadChange_BadRow => first | rfl | k_is)
    (case sb_BadRow_BadRow => first | rfl | k_is)
    (case sb_NoNumber_BadRow => first | rfl | k_is)
    (case sb_NoRow_BadRow => first | rfl | k_is)
    (case ic_NoRow => k_is)
    (case sb_BadChange_NoRow => first | rfl | k_is)
    (case sb_BadRow_NoRow => first | rfl | k_is)
    (case sb_NoNumber_NoRow => first | rfl | k_is)
    (case sb_NoRow_NoRow => first | rfl | k_is)
    (case xl_BadChange => k_is)
    (case rb_BadChange => decide +kernel)
    (case xs_BadChange => k_is)
    (case xn_BadChange => k_is)
    (case xi_BadChange => k_is)
    (case l_i_BadChange => k_is)
    (case cd_i_BadChange_ => k_is)
    (case kf_i_BadChange => k_is)
    (case xt_BadChange => k_is)
    (case xl_BadRow => k_is)
    (case rb_BadRow => decide +kernel)
    (case xs_BadRow => k_is)
    (case xn_BadRow => k_is)
    (case xi_BadRow => k_is)
    (case l_i_BadRow => k_is)
    (case cd_i_BadRow_ => k_is)
    (case kf_i_BadRow => k_is)
    (case xt_BadRow => k_is)
    (case an_law_hand_ => k_is)
    (case l_law_hand => k_is)
    (case cd_law_hand_ => k_is)
    (case kf_law_hand => k_is)
    (case an_law_take_ => k_is)
    (case l_law_take => k_is)
    (case cd_law_take_ => k_is)
    (case kf_law_take => k_is)
    (case an_law_pick_ => k_is)
    (case l_law_pick => k_is)
    (case cd_law_pick_ => k_is)
    (case kf_law_pick => k_is)
    (case an_law_bytes_ => k_is)
    (case l_law_bytes => k_is)
    (case cd_law_bytes_ => k_is)
    (case kf_law_bytes => k_is)
    (case an_law_figures_ => k_is)
    (case l_law_figures => k_is)
    (case cd_law_figures_ => k_is)
    (case kf_law_figures => k_is)
    (case an_law_parts_ => k_is)
    (case l_law_parts => k_is)
    (case cd_law_parts_ => k_is)
    (case kf_law_parts => k_is)
    (case an_law_number_at_ => k_is)
    (case l_law_number_at => k_is)
    (case cd_law_number_at_ => k_is)
    (case kf_law_number_at => k_is)
    (case an_law_led_ => k_is)
    (case l_law_led => k_is)
    (case cd_law_led_ => k_is)
    (case kf_law_led => k_is)
    (case an_law_near_row_ => k_is)
    (case l_law_near_row => k_is)
    (case cd_law_near_row_ => k_is)
    (case kf_law_near_row => k_is)
    (case an_is_row_ => k_is)
    (case l_is_row => k_is)
    (case cd_is_row_ => k_is)
    (case kf_is_row => k_is)
    (case an_check_rows_ => k_is)
    (case l_check_rows => k_is)
    (case cd_check_rows_ => k_is)
    (case kf_check_rows => k_is)
    (case an_many_alike_ => k_is)
    (case l_many_alike => k_is)
    (case cd_many_alike_ => k_is)
    (case kf_many_alike => k_is)
    (case an_is_int_ => k_is)
    (case l_is_int => k_is)
    (case cd_is_int_ => k_is)
    (case kf_is_int => k_is)
    (case an_is_number_ => k_is)
    (case l_is_number => k_is)
    (case cd_is_number_ => k_is)
    (case kf_is_number => k_is)
    (case an_is_number_below_ => k_is)
    (case l_is_number_below => k_is)
    (case cd_is_number_below_ => k_is)
    (case kf_is_number_below => k_is)
    (case an_whole_ => k_is)
    (case l_whole => k_is)
    (case cd_whole_ => k_is)
    (case kf_whole => k_is)
    (case an_part_ => k_is)
    (case l_part => k_is)
    (case cd_part_ => k_is)
    (case kf_part => k_is)
    (case an_change_ => k_is)
    (case l_change => k_is)
    (case cd_change_ => k_is)
    (case kf_change => k_is)
    (case an_law_is_integer_ => k_is)
    (case l_law_is_integer => k_is)
    (case cd_law_is_integer_ => k_is)
    (case kf_law_is_integer => k_is)
    (case an_law_same_ => k_is)
    (case l_law_same => k_is)
    (case cd_law_same_ => k_is)
    (case kf_law_same => k_is)
    (case an_whole_at_ => k_is)
    (case l_whole_at => k_is)
    (case cd_whole_at_ => k_is)
    (case kf_whole_at => k_is)
    (case an_part_at_ => k_is)
    (case l_part_at => k_is)
    (case cd_part_at_ => k_is)
    (case kf_part_at => k_is)
    (case an_changed_ => k_is)
    (case l_changed => k_is)
    (case cd_changed_ => k_is)
    (case kf_changed => k_is)
    (case an_is_change_ => k_is)
    (case l_is_change => k_is)
    (case cd_is_change_ => k_is)
    (case kf_is_change => k_is)
    (case an_law_refused_ => k_is)
    (case l_law_refused => k_is)
    (case cd_law_refused_ => k_is)
    (case kf_law_refused => k_is)
    (case an_law_told_ => k_is)
    (case l_law_told => k_is)
    (case cd_law_told_ => k_is)
    (case kf_law_told => k_is)
    (case an_law_is_within_ => k_is)
    (case l_law_is_within => k_is)
    (case cd_law_is_within_ => k_is)
    (case kf_law_is_within => k_is)
    (case an_law_is_row_ => k_is)
    (case l_law_is_row => k_is)
    (case cd_law_is_row_ => k_is)
    (case kf_law_is_row => k_is)
    (case an_law_ => k_is)
    (case l_law => k_is)
    (case cd_law_ => k_is)
    (case kf_law => k_is)
