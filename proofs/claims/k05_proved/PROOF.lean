import PyProof.Rows.All
import HandS.ForMost
import HandS.Evl
import HandS.ForExc
import HandS.TryMany
import HandS.TupAny
import HandS.Wide
import HandS.More
import HandS.Conv
import HandS.TupMul
import HandS.IsInst
import HandS.DictComp
import KE.GoesEnum
import HandS.SetFor
import HandS.TupSets
import HandS.ExcIs
import HandS.SortInts
import HandS.Set
import HandS.SortKw
import KE.DataMinMax
import HandS.SetBool
import HandS.Strs
import HandS.Style
import KE.KUnpackStar
import HandS.Zip
import KE.KDictCopyH
import HandS.Deep
import HandS.TupLen
import PySem.Challenge.RW_rowsahead_k05_logs
set_option Elab.async false
set_option linter.all false
set_option maxRecDepth 100000
namespace Den
open PySem L2
open Evl (Ex)

/-! ### plain data -/
inductive D where
  | non | bl (b : Bool) | int (i : Int) | str (s : Str) | ty (n : String) | ob (a : Addr)
  | tup (xs : List D) | lst (xs : List D) | seq (xs : List D)
  | dic (ks : List Key) (xs : List D) | dit (ks : List (List Key)) (xs : List D)

mutual
def Rep (K : PySem.W.Frag) (S : Hp) : D → V → Prop
  | .non, v => v = .non
  | .bl b, v => v = .bl b
  | .int i, v => v = .int i
  | .str s, v => v = .str s
  | .ty n, v => v = .ty n
  | .ob a, v => v = .ref a
  | .tup ds, v => ∃ a vs, v = .ref a ∧ S a = some (.tup vs) ∧ RepL K S ds vs
  | .lst ds, v => ∃ a vs, v = .ref a ∧ S a = some (.lst vs) ∧ RepL K S ds vs
  | .seq ds, v => ∃ a vs, v = .ref a ∧ SqL K S a vs ∧ RepL K S ds vs
  | .dic ks ds, v => ∃ a vs, v = .ref a ∧ S a = some (.dK (ks.zip vs)) ∧ ks.length = ds.length ∧ RepL K S ds vs
  | .dit ks ds, v => ∃ a vs, v = .ref a ∧ S a = some (.dT (ks.zip vs)) ∧ ks.length = ds.length ∧ RepL K S ds vs
def RepL (K : PySem.W.Frag) (S : Hp) : List D → List V → Prop
  | [], vs => vs = []
  | d :: ds, vs => ∃ v r, vs = v :: r ∧ Rep K S d v ∧ RepL K S ds r
end
section
variable {K : PySem.W.Frag} {S S' : Hp}
mutual
theorem Rep.mono (e : Ex S S') : ∀ (d : D) (v : V), Rep K S d v → Rep K S' d v
  | .non, _, h => by rw [Rep] at h ⊢; exact h
  | .bl _, _, h => by rw [Rep] at h ⊢; exact h
  | .int _, _, h => by rw [Rep] at h ⊢; exact h
  | .str _, _, h => by rw [Rep] at h ⊢; exact h
  | .ty _, _, h => by rw [Rep] at h ⊢; exact h
  | .ob _, _, h => by rw [Rep] at h ⊢; exact h
  | .tup ds, _, h => by
    rw [Rep] at h ⊢
    obtain ⟨a, vs, e1, h1, h2⟩ := h
    exact ⟨a, vs, e1, e _ _ h1, RepL.mono e ds vs h2⟩
  | .lst ds, _, h => by
    rw [Rep] at h ⊢
    obtain ⟨a, vs, e1, h1, h2⟩ := h
    exact ⟨a, vs, e1, e _ _ h1, RepL.mono e ds vs h2⟩
  | .seq ds, _, h => by
    rw [Rep] at h ⊢
    obtain ⟨a, vs, e1, h1, h2⟩ := h
    exact ⟨a, vs, e1, Evl.ex_l e h1, RepL.mono e ds vs h2⟩
  | .dic ks ds, _, h => by
    rw [Rep] at h ⊢
    obtain ⟨a, vs, e1, h1, h3, h2⟩ := h
    exact ⟨a, vs, e1, e _ _ h1, h3, RepL.mono e ds vs h2⟩
  | .dit ks ds, _, h => by
    rw [Rep] at h ⊢
    obtain ⟨a, vs, e1, h1, h3, h2⟩ := h
    exact ⟨a, vs, e1, e _ _ h1, h3, RepL.mono e ds vs h2⟩
theorem RepL.mono (e : Ex S S') : ∀ (ds : List D) (vs : List V), RepL K S ds vs → RepL K S' ds vs
  | [], _, h => by rw [RepL] at h ⊢; exact h
  | d :: ds, _, h => by
    rw [RepL] at h ⊢
    obtain ⟨v, r, e1, h1, h2⟩ := h
    exact ⟨v, r, e1, Rep.mono e d v h1, RepL.mono e ds r h2⟩
end
theorem RepL.nil : RepL K S [] [] := by rw [RepL]
theorem RepL.cons {d : D} {ds : List D} {v : V} {vs : List V} (h : Rep K S d v) (t : RepL K S ds vs) : RepL K S (d :: ds) (v :: vs) := by
  rw [RepL]
  exact ⟨v, vs, rfl, h, t⟩
theorem RepL.length : ∀ {ds : List D} {vs : List V}, RepL K S ds vs → ds.length = vs.length
  | [], vs, h => by rw [RepL] at h; subst h; rfl
  | d :: ds, vs, h => by
    rw [RepL] at h
    obtain ⟨v, r, rfl, _, h⟩ := h
    rw [List.length_cons, List.length_cons, RepL.length h]
theorem RepL.get : ∀ {ds : List D} {vs : List V} {i : Nat} {d : D}, RepL K S ds vs → ds[i]? = some d → ∃ v, vs[i]? = some v ∧ Rep K S d v
  | [], _, i, d, _, e => by simp at e
  | x :: ds, vs, i, d, h, e => by
    rw [RepL] at h
    obtain ⟨v, r, rfl, h1, h2⟩ := h
    cases i with
    | zero =>
      have e' : x = d := by simpa using e
      subst e'
      exact ⟨v, by simp, h1⟩
    | succ i =>
      obtain ⟨u, h3, h4⟩ := RepL.get h2 (i := i) (d := d) (by simpa using e)
      exact ⟨u, by simpa using h3, h4⟩
theorem RepL.getV : ∀ {ds : List D} {vs : List V} {i : Nat} {v : V}, RepL K S ds vs → vs[i]? = some v → ∃ d, ds[i]? = some d ∧ Rep K S d v
  | [], vs, i, d, h, e => by
    rw [RepL] at h
    subst h
    simp at e
  | x :: ds, vs, i, d, h, e => by
    rw [RepL] at h
    obtain ⟨v, r, rfl, h1, h2⟩ := h
    cases i with
    | zero =>
      have e' : v = d := by simpa using e
      subst e'
      exact ⟨x, by simp, h1⟩
    | succ i =>
      obtain ⟨u, h3, h4⟩ := RepL.getV h2 (i := i) (v := d) (by simpa using e)
      exact ⟨u, by simpa using h3, h4⟩
theorem RepL.append : ∀ {ds es : List D} {vs us : List V}, RepL K S ds vs → RepL K S es us → RepL K S (ds ++ es) (vs ++ us)
  | [], es, vs, us, h, h2 => by
    rw [RepL] at h
    subst h
    exact h2
  | d :: ds, es, vs, us, h, h2 => by
    rw [RepL] at h
    obtain ⟨v, r, rfl, h1, h3⟩ := h
    exact RepL.cons h1 (RepL.append h3 h2)
theorem RepL.one {d : D} {v : V} (h : Rep K S d v) : RepL K S [d] [v] := RepL.cons h RepL.nil
theorem RepL.set : ∀ {ds : List D} {vs : List V} {d : D} {v : V} (i : Nat), RepL K S ds vs → Rep K S d v → RepL K S (ds.set i d) (vs.set i v)
  | [], vs, d, v, i, h, h2 => by
    rw [RepL] at h
    subst h
    exact RepL.nil
  | x :: ds, vs, d, v, i, h, h2 => by
    rw [RepL] at h
    obtain ⟨u, r, rfl, h1, h3⟩ := h
    cases i with
    | zero => exact RepL.cons h2 h3
    | succ i => exact RepL.cons h1 (RepL.set i h3 h2)
theorem RepL.eraseIdx : ∀ {ds : List D} {vs : List V} (i : Nat), RepL K S ds vs → RepL K S (ds.eraseIdx i) (vs.eraseIdx i)
  | [], vs, i, h => by
    rw [RepL] at h
    subst h
    exact RepL.nil
  | x :: ds, vs, i, h => by
    rw [RepL] at h
    obtain ⟨u, r, rfl, h1, h3⟩ := h
    cases i with
    | zero => exact h3
    | succ i => exact RepL.cons h1 (RepL.eraseIdx i h3)
theorem RepL.take : ∀ {ds : List D} {vs : List V} (i : Nat), RepL K S ds vs → RepL K S (ds.take i) (vs.take i)
  | [], vs, i, h => by
    rw [RepL] at h
    subst h
    rw [List.take_nil, List.take_nil]
    exact RepL.nil
  | x :: ds, vs, i, h => by
    rw [RepL] at h
    obtain ⟨u, r, rfl, h1, h3⟩ := h
    cases i with
    | zero => exact RepL.nil
    | succ i => exact RepL.cons h1 (RepL.take i h3)
theorem RepL.drop : ∀ {ds : List D} {vs : List V} (i : Nat), RepL K S ds vs → RepL K S (ds.drop i) (vs.drop i)
  | [], vs, i, h => by
    rw [RepL] at h
    subst h
    rw [List.drop_nil, List.drop_nil]
    exact RepL.nil
  | x :: ds, vs, i, h => by
    rw [RepL] at h
    obtain ⟨u, r, rfl, h1, h3⟩ := h
    cases i with
    | zero => exact RepL.cons h1 h3
    | succ i => exact RepL.drop i h3
end

/-! ### values, slots, the world's objects -/
inductive XV where
  | d (d : D) | h (n : Nat)
inductive WO where
  | dead | lst (xs : List XV) | ins (C : Addr) (ks : List Str) (xs : List XV)
inductive Sl where
  | un | dat (d : D) | hnd (n : Nat) | ol (ds : List D) | od (ks : List Key) (ds : List D) | ot (ks : List (List Key)) (ds : List D)
structure Stt where
  sl : List Sl
  w : List WO
def Rle (r r' : List Addr) : Prop := ∀ (n : Nat) (a : Addr), r[n]? = some a → r'[n]? = some a
theorem Rle.refl (r : List Addr) : Rle r r := fun _ _ h => h
theorem Rle.trans {a b c : List Addr} (h : Rle a b) (k : Rle b c) : Rle a c := fun n x e => k n x (h n x e)
def XRep (K : PySem.W.Frag) (S : Hp) (r : List Addr) : XV → V → Prop
  | .d d, v => Rep K S d v
  | .h n, v => ∃ a, r[n]? = some a ∧ v = .ref a
def XRepL (K : PySem.W.Frag) (S : Hp) (r : List Addr) : List XV → List V → Prop
  | [], vs => vs = []
  | x :: xs, vs => ∃ v t, vs = v :: t ∧ XRep K S r x v ∧ XRepL K S r xs t
section
variable {K : PySem.W.Frag} {S S' : Hp} {r r' : List Addr}
theorem XRep.mono (e : Ex S S') (k : Rle r r') : ∀ {x : XV} {v : V}, XRep K S r x v → XRep K S' r' x v
  | .d d, v, h => Rep.mono e d v h
  | .h n, v, ⟨a, h1, h2⟩ => ⟨a, k n a h1, h2⟩
theorem XRepL.mono (e : Ex S S') (k : Rle r r') : ∀ {xs : List XV} {vs : List V}, XRepL K S r xs vs → XRepL K S' r' xs vs
  | [], _, h => h
  | x :: xs, _, ⟨v, t, h1, h2, h3⟩ => ⟨v, t, h1, h2.mono e k, XRepL.mono e k h3⟩
theorem XRepL.length : ∀ {xs : List XV} {vs : List V}, XRepL K S r xs vs → xs.length = vs.length
  | [], vs, h => by
    have e : vs = [] := h
    subst e
    rfl
  | x :: xs, _, ⟨v, t, h1, h2, h3⟩ => by
    subst h1
    rw [List.length_cons, List.length_cons, XRepL.length h3]
theorem XRepL.get : ∀ {xs : List XV} {vs : List V} {i : Nat} {x : XV}, XRepL K S r xs vs → xs[i]? = some x → ∃ v, vs[i]? = some v ∧ XRep K S r x v
  | [], _, i, d, _, e => by simp at e
  | y :: ds, vs, i, d, h, e => by
    obtain ⟨v, t, rfl, h1, h2⟩ := h
    cases i with
    | zero =>
      have e' : y = d := by simpa using e
      subst e'
      exact ⟨v, by simp, h1⟩
    | succ i =>
      obtain ⟨u, h3, h4⟩ := XRepL.get h2 (i := i) (x := d) (by simpa using e)
      exact ⟨u, by simpa using h3, h4⟩
theorem XRepL.set : ∀ {ds : List XV} {vs : List V} {d : XV} {v : V} (i : Nat), XRepL K S r ds vs → XRep K S r d v → XRepL K S r (ds.set i d) (vs.set i v)
  | [], vs, d, v, i, h, h2 => by
    have e : vs = [] := h
    subst e
    exact rfl
  | x :: ds, vs, d, v, i, h, h2 => by
    obtain ⟨u, t, rfl, h1, h3⟩ := h
    cases i with
    | zero => exact ⟨v, t, rfl, h2, h3⟩
    | succ i => exact ⟨u, _, rfl, h1, XRepL.set i h3 h2⟩
end
abbrev Ow := Addr → Option (Sum Nat Nat)
def SlOk (K : PySem.W.Frag) (S H : Hp) (r : List Addr) (ow : Ow) (i : Nat) : Sl → Option V → Prop
  | .un, _ => True
  | .dat d, x => ∃ v, x = some v ∧ Rep K S d v
  | .hnd n, x => ∃ a, r[n]? = some a ∧ x = some (.ref a)
  | .ol ds, x => ∃ a vs, x = some (.ref a) ∧ ow a = some (.inl i) ∧ H a = some (.lst vs) ∧ RepL K S ds vs
  | .od ks ds, x => ∃ a vs, x = some (.ref a) ∧ ow a = some (.inl i) ∧ H a = some (.dK (ks.zip vs)) ∧ ks.length = ds.length ∧ RepL K S ds vs
  | .ot ks ds, x => ∃ a vs, x = some (.ref a) ∧ ow a = some (.inl i) ∧ H a = some (.dT (ks.zip vs)) ∧ ks.length = ds.length ∧ RepL K S ds vs
def WOk (K : PySem.W.Frag) (S H : Hp) (r : List Addr) (ow : Ow) (n : Nat) : WO → Prop
  | .dead => True
  | .lst xs => ∃ a vs, r[n]? = some a ∧ ow a = some (.inr n) ∧ H a = some (.lst vs) ∧ XRepL K S r xs vs
  | .ins C ks xs => ∃ a dx vs, r[n]? = some a ∧ ow a = some (.inr n) ∧ H a = some (.ins C dx (ks.zip vs)) ∧ ks.length = xs.length ∧ XRepL K S r xs vs
structure EnvO (K : PySem.W.Frag) (F S H : Hp) (r : List Addr) (σ : L2.St) (q : Stt) (ow : Ow) : Prop where
  sub : Ex S H
  fr : ∀ a o, F a = some o → H a = some o ∧ S a = none
  ows : ∀ a x, ow a = some x → S a = none ∧ F a = none ∧ ∃ o, H a = some o
  len : σ.length = q.sl.length
  slot : ∀ i s, q.sl[i]? = some s → SlOk K S H r ow i s (σ[i]?.getD none)
  rlen : r.length = q.w.length
  wob : ∀ n o, q.w[n]? = some o → WOk K S H r ow n o
  nt : ∀ a vs, H a = some (.tup vs) → F a = none ∧ ow a = none
/-- no tuple -/
abbrev Mut (o : HO) : Prop := ∀ vs, o ≠ .tup vs
def Env (K : PySem.W.Frag) (F S H : Hp) (r : List Addr) (σ : L2.St) (q : Stt) : Prop := ∃ ow, EnvO K F S H r σ q ow
section
variable {K : PySem.W.Frag} {F F' S S' H H' : Hp} {r r' : List Addr} {σ σ' : L2.St} {q q' : Stt} {ow ow' : Ow} {i n : Nat} {p a : Addr} {o o' : HO}
theorem SlOk.mono {s : Sl} {x : Option V} (e : Ex S S') (k : Rle r r') (ho : ∀ a, ow a = some (.inl i) → ow' a = some (.inl i) ∧ H' a = H a) (h : SlOk K S H r ow i s x) : SlOk K S' H' r' ow' i s x := by
  cases s with
  | un => trivial
  | dat d =>
    obtain ⟨v, h1, h2⟩ := h
    exact ⟨v, h1, Rep.mono e d v h2⟩
  | hnd n =>
    obtain ⟨a, h1, h2⟩ := h
    exact ⟨a, k _ _ h1, h2⟩
  | ol ds =>
    obtain ⟨a, vs, h1, h2, h3, h4⟩ := h
    exact ⟨a, vs, h1, (ho a h2).1, by rw [(ho a h2).2]; exact h3, RepL.mono e ds vs h4⟩
  | od ks ds =>
    obtain ⟨a, vs, h1, h2, h3, h5, h4⟩ := h
    exact ⟨a, vs, h1, (ho a h2).1, by rw [(ho a h2).2]; exact h3, h5, RepL.mono e ds vs h4⟩
  | ot ks ds =>
    obtain ⟨a, vs, h1, h2, h3, h5, h4⟩ := h
    exact ⟨a, vs, h1, (ho a h2).1, by rw [(ho a h2).2]; exact h3, h5, RepL.mono e ds vs h4⟩
theorem WOk.mono {s : WO} (e : Ex S S') (k : Rle r r') (ho : ∀ a, ow a = some (.inr n) → ow' a = some (.inr n) ∧ H' a = H a) (h : WOk K S H r ow n s) : WOk K S' H' r' ow' n s := by
  cases s with
  | dead => trivial
  | lst xs =>
    obtain ⟨a, vs, h1, h2, h3, h4⟩ := h
    exact ⟨a, vs, k _ _ h1, (ho a h2).1, by rw [(ho a h2).2]; exact h3, h4.mono e k⟩
  | ins C ks xs =>
    obtain ⟨a, dx, vs, h1, h2, h3, h5, h4⟩ := h
    exact ⟨a, dx, vs, k _ _ h1, (ho a h2).1, by rw [(ho a h2).2]; exact h3, h5, h4.mono e k⟩
theorem Env.sub (E : Env K F S H r σ q) : Ex S H := let ⟨_, e⟩ := E; e.sub
theorem Env.fr (E : Env K F S H r σ q) (h : F a = some o) : H a = some o := let ⟨_, e⟩ := E; (e.fr a o h).1
theorem Env.newF (E : Env K F S H r σ q) (h : H p = none) : F p = none := by
  obtain ⟨ow, e⟩ := E
  cases z : F p with
  | none => rfl
  | some o =>
    rw [(e.fr p o z).1] at h
    cases h
theorem Env.newS (E : Env K F S H r σ q) (h : H p = none) : S p = none := by
  obtain ⟨ow, e⟩ := E
  cases z : S p with
  | none => rfl
  | some o =>
    rw [e.sub p o z] at h
    cases h
/-- a new object, in the frame for a while -/
theorem Env.add (E : Env K F S H r σ q) (h : H p = none) (o : HO) (hm : Mut o := by intro _ h; cases h) : Env K (upd F p o) S (upd H p o) r σ q := by
  have hF := E.newF h
  have hS := E.newS h
  obtain ⟨ow, e⟩ := E
  have hw : ow p = none := by
    cases z : ow p with
    | none => rfl
    | some x =>
      obtain ⟨_, _, o, k⟩ := e.ows p x z
      rw [k] at h
      cases h
  have ne : ∀ a x, ow a = some x → a ≠ p := fun a x k z => by
    rw [z, hw] at k
    cases k
  refine ⟨ow, fun a o' k => ?_, fun a o' k => ?_, fun a x k => ?_, e.len, fun i s k => ?_, e.rlen, fun n o' k => ?_, fun a vs k => ?_⟩
  · rw [upd_ne (ne_of_none k hS)]
    exact e.sub a o' k
  · by_cases z : a = p
    · subst z
      rw [upd_same] at k ⊢
      exact ⟨k, hS⟩
    · rw [upd_ne z] at k ⊢
      exact e.fr a o' k
  · obtain ⟨k1, k2, k3⟩ := e.ows a x k
    have z := ne a x k
    refine ⟨k1, ?_, ?_⟩
    · rw [upd_ne z]
      exact k2
    · rw [upd_ne z]
      exact k3
  · exact (e.slot i s k).mono (Evl.Ex.refl _) (Rle.refl _) fun a m => ⟨m, upd_ne (ne a _ m)⟩
  · exact (e.wob n o' k).mono (Evl.Ex.refl _) (Rle.refl _) fun a m => ⟨m, upd_ne (ne a _ m)⟩
  · by_cases z : a = p
    · subst z
      rw [upd_same] at k
      exact absurd (Option.some.inj k) (hm vs)
    · rw [upd_ne z] at k
      rw [upd_ne z]
      exact e.nt a vs k
/-- a new tuple, for good -/
theorem Env.newT (E : Env K F S H r σ q) (h : H p = none) (vs : List V) : Env K F (upd S p (.tup vs)) (upd H p (.tup vs)) r σ q ∧ Ex S (upd S p (.tup vs)) := by
  have hF := E.newF h
  have hS := E.newS h
  have ex : Ex S (upd S p (.tup vs)) := Evl.Ex.new hS
  obtain ⟨ow, e⟩ := E
  have hw : ow p = none := by
    cases z : ow p with
    | none => rfl
    | some x =>
      obtain ⟨_, _, o, k⟩ := e.ows p x z
      rw [k] at h
      cases h
  have ne : ∀ a x, ow a = some x → a ≠ p := fun a x k z => by
    rw [z, hw] at k
    cases k
  refine ⟨⟨ow, fun a o' k => ?_, fun a o' k => ?_, fun a x k => ?_, e.len, fun i s k => ?_, e.rlen, fun n o' k => ?_, fun a us k => ?_⟩, ex⟩
  · by_cases z : a = p
    · subst z
      rw [upd_same] at k ⊢
      exact k
    · rw [upd_ne z] at k ⊢
      exact e.sub a o' k
  · have z : a ≠ p := ne_of_none k hF
    rw [upd_ne z, upd_ne z]
    exact e.fr a o' k
  · obtain ⟨k1, k2, k3⟩ := e.ows a x k
    have z := ne a x k
    exact ⟨by rw [upd_ne z]; exact k1, k2, by rw [upd_ne z]; exact k3⟩
  · exact (e.slot i s k).mono ex (Rle.refl _) fun a m => ⟨m, upd_ne (ne a _ m)⟩
  · exact (e.wob n o' k).mono ex (Rle.refl _) fun a m => ⟨m, upd_ne (ne a _ m)⟩
  · by_cases z : a = p
    · subst z
      exact ⟨hF, hw⟩
    · rw [upd_ne z] at k
      exact e.nt a us k
/-- a tuple that stands, taken up -/
theorem Env.takeT {vs : List V} (E : Env K F S H r σ q) (h : H p = some (.tup vs)) : Env K F (upd S p (.tup vs)) H r σ q ∧ Ex S (upd S p (.tup vs)) := by
  obtain ⟨ow, e⟩ := E
  have ex : Ex S (upd S p (.tup vs)) := fun a o k => by
    by_cases z : a = p
    · subst z
      rw [e.sub a o k] at h
      cases h
      exact upd_same
    · rw [upd_ne z]
      exact k
  obtain ⟨hF, hw⟩ := e.nt p vs h
  have ne : ∀ a x, ow a = some x → a ≠ p := fun a x k z => by
    rw [z, hw] at k
    cases k
  refine ⟨⟨ow, fun a o' k => ?_, fun a o' k => ?_, fun a x k => ?_, e.len, fun i s k => ?_, e.rlen, fun n o' k => ?_, e.nt⟩, ex⟩
  · by_cases z : a = p
    · subst z
      rw [upd_same] at k
      cases k
      exact h
    · rw [upd_ne z] at k
      exact e.sub a o' k
  · have z : a ≠ p := ne_of_none k hF
    rw [upd_ne z]
    exact e.fr a o' k
  · obtain ⟨k1, k2, k3⟩ := e.ows a x k
    exact ⟨by rw [upd_ne (ne a x k)]; exact k1, k2, k3⟩
  · exact (e.slot i s k).mono ex (Rle.refl _) fun a m => ⟨m, rfl⟩
  · exact (e.wob n o' k).mono ex (Rle.refl _) fun a m => ⟨m, rfl⟩
/-- what stands in the frame alone is never written again -/
theorem Env.settle (E : Env K (upd F p o) S H r σ q) (h : F p = none) : Env K F (upd S p o) H r σ q ∧ Ex S (upd S p o) := by
  obtain ⟨ow, e⟩ := E
  obtain ⟨h1, h2⟩ := e.fr p o upd_same
  have ex : Ex S (upd S p o) := Evl.Ex.new h2
  have ne : ∀ a x, ow a = some x → a ≠ p := fun a x k z => by
    obtain ⟨_, k2, _⟩ := e.ows a x k
    rw [z, upd_same] at k2
    cases k2
  refine ⟨⟨ow, fun a o' k => ?_, fun a o' k => ?_, fun a x k => ?_, e.len, fun i s k => ?_, e.rlen, fun n o' k => ?_, fun a vs k => ?_⟩, ex⟩
  · by_cases z : a = p
    · subst z
      rw [upd_same] at k
      cases k
      exact h1
    · rw [upd_ne z] at k
      exact e.sub a o' k
  · have z : a ≠ p := ne_of_none k h
    have k' : upd F p o a = some o' := by
      rw [upd_ne z]
      exact k
    obtain ⟨z1, z2⟩ := e.fr a o' k'
    exact ⟨z1, by rw [upd_ne z]; exact z2⟩
  · have z := ne a x k
    obtain ⟨k1, k2, k3⟩ := e.ows a x k
    rw [upd_ne z] at k2
    exact ⟨by rw [upd_ne z]; exact k1, k2, k3⟩
  · exact (e.slot i s k).mono ex (Rle.refl _) fun a m => ⟨m, rfl⟩
  · exact (e.wob n o' k).mono ex (Rle.refl _) fun a m => ⟨m, rfl⟩
  · obtain ⟨k1, k2⟩ := e.nt a vs k
    by_cases z : a = p
    · subst z
      rw [upd_same] at k1
      cases k1
    · rw [upd_ne z] at k1
      exact ⟨k1, k2⟩
/-- what stands in the frame is written -/
theorem Env.write (E : Env K (upd F p o) S H r σ q) (o' : HO) (hm : Mut o' := by intro _ h; cases h) : Env K (upd F p o') S (upd H p o') r σ q := by
  obtain ⟨ow, e⟩ := E
  obtain ⟨h1, h2⟩ := e.fr p o upd_same
  have ne : ∀ a x, ow a = some x → a ≠ p := fun a x k z => by
    obtain ⟨_, k2, _⟩ := e.ows a x k
    rw [z, upd_same] at k2
    cases k2
  refine ⟨ow, fun a u k => ?_, fun a u k => ?_, fun a x k => ?_, e.len, fun i s k => ?_, e.rlen, fun n u k => ?_, fun a vs k => ?_⟩
  · rw [upd_ne (ne_of_none k h2)]
    exact e.sub a u k
  · by_cases z : a = p
    · subst z
      rw [upd_same] at k ⊢
      exact ⟨k, h2⟩
    · rw [upd_ne z] at k ⊢
      refine e.fr a u ?_
      rw [upd_ne z]
      exact k
  · obtain ⟨k1, k2, k3⟩ := e.ows a x k
    have z := ne a x k
    rw [upd_ne z] at k2
    refine ⟨k1, by rw [upd_ne z]; exact k2, by rw [upd_ne z]; exact k3⟩
  · exact (e.slot i s k).mono (Evl.Ex.refl _) (Rle.refl _) fun a m => ⟨m, upd_ne (ne a _ m)⟩
  · exact (e.wob n u k).mono (Evl.Ex.refl _) (Rle.refl _) fun a m => ⟨m, upd_ne (ne a _ m)⟩
  · by_cases z : a = p
    · subst z
      rw [upd_same] at k
      exact absurd (Option.some.inj k) (hm vs)
    · rw [upd_ne z] at k
      have := e.nt a vs k
      rw [upd_ne z] at this ⊢
      exact this
theorem set_getD {σ : L2.St} {i j : Nat} {x : Option V} (h : i < σ.length) : ((σ.set i x)[j]?).getD none = if j = i then x else σ[j]?.getD none := by
  by_cases e : j = i
  · subst e
    rw [List.getElem?_set_self h, if_pos rfl]
    rfl
  · rw [List.getElem?_set_ne (Ne.symm e), if_neg e]
/-- a slot is stored -/
theorem Env.put (E : Env K F S H r σ q) (i : Nat) (s : Sl) (x : Option V) (h : ∀ ow, SlOk K S H r ow i s x) (hi : i < q.sl.length) : Env K F S H r (σ.set i x) { q with sl := q.sl.set i s } := by
  obtain ⟨ow, e⟩ := E
  have hl : i < σ.length := by rw [e.len]; exact hi
  refine ⟨ow, e.sub, e.fr, e.ows, by simp [e.len], fun j t k => ?_, e.rlen, e.wob, e.nt⟩
  rw [set_getD hl]
  by_cases z : j = i
  · subst z
    rw [if_pos rfl]
    have k' : (q.sl.set j s)[j]? = some t := k
    rw [List.getElem?_set_self hi] at k'
    cases k'
    exact h ow
  · rw [if_neg z]
    have k' : (q.sl.set i s)[j]? = some t := k
    rw [List.getElem?_set_ne (Ne.symm z)] at k'
    exact e.slot j t k'
theorem Env.putD {d : D} {v : V} (E : Env K F S H r σ q) (i : Nat) (h : Rep K S d v) (hi : i < q.sl.length) : Env K F S H r (σ.set i (some v)) { q with sl := q.sl.set i (.dat d) } :=
  E.put i _ _ (fun _ => ⟨v, rfl, h⟩) hi
theorem Env.putX {x : XV} {v : V} (E : Env K F S H r σ q) (i : Nat) (h : XRep K S r x v) (hi : i < q.sl.length) : Env K F S H r (σ.set i (some v)) { q with sl := q.sl.set i (match x with | .d d => .dat d | .h n => .hnd n) } := by
  cases x with
  | d d => exact E.putD i h hi
  | h n =>
    obtain ⟨a, h1, h2⟩ := h
    exact E.put i _ _ (fun _ => ⟨a, h1, by rw [h2]⟩) hi
/-- forget a slot -/
theorem Env.forget (E : Env K F S H r σ q) (i : Nat) : Env K F S H r σ { q with sl := q.sl.set i .un } := by
  obtain ⟨ow, e⟩ := E
  refine ⟨ow, e.sub, e.fr, e.ows, by simp [e.len], fun j t k => ?_, e.rlen, e.wob, e.nt⟩
  have k' : (q.sl.set i .un)[j]? = some t := k
  by_cases z : i = j
  · subst z
    by_cases hi : i < q.sl.length
    · rw [List.getElem?_set_self hi] at k'
      cases k'
      trivial
    · rw [List.getElem?_eq_none (by simp; omega)] at k'
      cases k'
  · rw [List.getElem?_set_ne z] at k'
    exact e.slot j t k'
/-- a slot takes what stood in the frame alone -/
theorem Env.own (E : Env K (upd F p o) S H r σ q) (h : F p = none) (i : Nat) (s : Sl) (hs : ∀ ow : Ow, ow p = some (.inl i) → H p = some o → SlOk K S H r ow i s (some (.ref p))) (hi : i < q.sl.length) :
    Env K F S H r (σ.set i (some (.ref p))) { q with sl := q.sl.set i s } := by
  obtain ⟨ow, e⟩ := E
  obtain ⟨h1, h2⟩ := e.fr p o upd_same
  have ne : ∀ a x, ow a = some x → a ≠ p := fun a x k z => by
    obtain ⟨_, k2, _⟩ := e.ows a x k
    rw [z, upd_same] at k2
    cases k2
  have hl : i < σ.length := by rw [e.len]; exact hi
  have keep : ∀ a x, ow a = some x → (fun b => if b = p then some (Sum.inl i) else ow b) a = some x := fun a x k => by
    show (if a = p then _ else ow a) = _
    rw [if_neg (ne a x k)]
    exact k
  refine ⟨fun b => if b = p then some (.inl i) else ow b, e.sub, fun a u k => ?_, fun a x k => ?_, by simp [e.len], fun j t k => ?_, e.rlen, fun n u k => ?_, fun a vs k => ?_⟩
  · have z : a ≠ p := ne_of_none k h
    refine e.fr a u ?_
    rw [upd_ne z]
    exact k
  · have k' : (if a = p then some (Sum.inl i) else ow a) = some x := k
    by_cases z : a = p
    · subst z
      exact ⟨h2, h, _, h1⟩
    · rw [if_neg z] at k'
      obtain ⟨k1, k2, k3⟩ := e.ows a x k'
      rw [upd_ne z] at k2
      exact ⟨k1, k2, k3⟩
  · rw [set_getD hl]
    have k' : (q.sl.set i s)[j]? = some t := k
    by_cases z : j = i
    · subst z
      rw [if_pos rfl]
      rw [List.getElem?_set_self hi] at k'
      cases k'
      exact hs _ (by show (if p = p then _ else _) = _; rw [if_pos rfl]) h1
    · rw [if_neg z]
      rw [List.getElem?_set_ne (Ne.symm z)] at k'
      exact (e.slot j t k').mono (Evl.Ex.refl _) (Rle.refl _) fun a m => ⟨keep a _ m, rfl⟩
  · exact (e.wob n u k).mono (Evl.Ex.refl _) (Rle.refl _) fun a m => ⟨keep a _ m, rfl⟩
  · obtain ⟨k1, k2⟩ := e.nt a vs k
    by_cases z : a = p
    · subst z
      rw [upd_same] at k1
      cases k1
    · rw [upd_ne z] at k1
      exact ⟨k1, by show (if a = p then _ else ow a) = _; rw [if_neg z]; exact k2⟩
/-- what a slot owns, back to the frame -/
theorem Env.disown {s : Sl} (E : Env K F S H r σ q) (hi : q.sl[i]? = some s) (hs : ∀ ow, SlOk K S H r ow i s (σ[i]?.getD none) → ∃ a o, σ[i]? = some (some (.ref a)) ∧ ow a = some (.inl i) ∧ H a = some o) :
    ∃ a o, σ[i]? = some (some (.ref a)) ∧ H a = some o ∧ F a = none ∧ Env K (upd F a o) S H r σ { q with sl := q.sl.set i .un } ∧ ∃ ow, ow a = some (.inl i) ∧ SlOk K S H r ow i s (some (.ref a)) := by
  obtain ⟨ow, e⟩ := E
  have hk := e.slot i s hi
  obtain ⟨a, o, ha, hw, hH⟩ := hs ow hk
  obtain ⟨k1, k2, _⟩ := e.ows a _ hw
  refine ⟨a, o, ha, hH, k2, ⟨fun b => if b = a then none else ow b, e.sub, fun b u k => ?_, fun b x k => ?_, by simp [e.len], fun j t k => ?_, e.rlen, fun n u k => ?_, fun b vs k => ?_⟩, ow, hw, by rw [ha] at hk; exact hk⟩
  · by_cases z : b = a
    · subst z
      rw [upd_same] at k
      cases k
      exact ⟨hH, k1⟩
    · rw [upd_ne z] at k
      exact e.fr b u k
  · have k' : (if b = a then none else ow b) = some x := k
    by_cases z : b = a
    · rw [if_pos z] at k'
      cases k'
    · rw [if_neg z] at k'
      obtain ⟨m1, m2, m3⟩ := e.ows b x k'
      exact ⟨m1, by rw [upd_ne z]; exact m2, m3⟩
  · have k' : (q.sl.set i .un)[j]? = some t := k
    by_cases z : i = j
    · subst z
      have hl := (List.getElem?_eq_some_iff.mp hi).1
      rw [List.getElem?_set_self hl] at k'
      cases k'
      trivial
    · rw [List.getElem?_set_ne z] at k'
      refine (e.slot j t k').mono (Evl.Ex.refl _) (Rle.refl _) fun b m => ⟨?_, rfl⟩
      show (if b = a then none else ow b) = _
      rw [if_neg ?_]
      · exact m
      · rintro rfl
        rw [hw] at m
        cases m
        exact z rfl
  · refine (e.wob n u k).mono (Evl.Ex.refl _) (Rle.refl _) fun b m => ⟨?_, rfl⟩
    show (if b = a then none else ow b) = _
    rw [if_neg ?_]
    · exact m
    · rintro rfl
      rw [hw] at m
      cases m
  · obtain ⟨n1, n2⟩ := e.nt b vs k
    have z : b ≠ a := fun z => by
      rw [z, hw] at n2
      cases n2
    exact ⟨by rw [upd_ne z]; exact n1, by show (if b = a then none else ow b) = none; rw [if_neg z]; exact n2⟩
/-- the callee's view: what the caller's slots own is in the frame -/
theorem Env.hide (E : Env K F S H r σ q) : ∃ F', (∀ a o, F a = some o → F' a = some o) ∧ Env K F' S H r [] ⟨[], q.w⟩ ∧
    ∀ S' H' r' w', Ex S S' → Rle r r' → Env K F' S' H' r' [] ⟨[], w'⟩ → Env K F S' H' r' σ ⟨q.sl, w'⟩ := by
  obtain ⟨ow, e⟩ := E
  let F' : Hp := fun a => match ow a with | some (.inl _) => H a | _ => F a
  have f1 : ∀ a i, ow a = some (.inl i) → F' a = H a := fun a i k => by
    show (match ow a with | some (.inl _) => H a | _ => F a) = H a
    rw [k]
  have f2 : ∀ a, (∀ i, ow a ≠ some (.inl i)) → F' a = F a := fun a k => by
    show (match ow a with | some (.inl _) => H a | _ => F a) = F a
    cases z : ow a with
    | none => rfl
    | some x =>
      cases x with
      | inl i => exact absurd z (k i)
      | inr i => rfl
  have f3 : ∀ a o, F' a = some o → (∃ i, ow a = some (.inl i)) ∨ F a = some o := fun a o k => by
    cases z : ow a with
    | none =>
      rw [f2 a (fun i h => by rw [z] at h; cases h)] at k
      exact .inr k
    | some x =>
      cases x with
      | inl i => exact .inl ⟨i, rfl⟩
      | inr i =>
        rw [f2 a (fun i h => by rw [z] at h; cases h)] at k
        exact .inr k
  refine ⟨F', fun a o k => ?_, ⟨fun a => match ow a with | some (.inr n) => some (.inr n) | _ => none, e.sub, fun a o k => ?_, fun a x k => ?_, rfl, fun i s k => ?_, e.rlen, fun n o k => ?_, fun a vs k => ?_⟩, fun S' H' r' w' eS er E' => ?_⟩
  · rw [f2 a fun i h => ?_]
    · exact k
    · obtain ⟨_, k2, _⟩ := e.ows a _ h
      rw [k2] at k
      cases k
  · rcases f3 a o k with ⟨i, h⟩ | h
    · rw [f1 a i h] at k
      exact ⟨k, (e.ows a _ h).1⟩
    · exact e.fr a o h
  · have k' : (match ow a with | some (.inr n) => some (Sum.inr n) | _ => none) = some x := k
    cases z : ow a with
    | none => rw [z] at k'; cases k'
    | some y =>
      cases y with
      | inl i => rw [z] at k'; cases k'
      | inr n =>
        obtain ⟨m1, m2, m3⟩ := e.ows a _ z
        refine ⟨m1, ?_, m3⟩
        rw [f2 a (fun i h => by rw [z] at h; cases h)]
        exact m2
  · simp at k
  · refine (e.wob n o k).mono (Evl.Ex.refl _) (Rle.refl _) fun b m => ⟨?_, rfl⟩
    show (match ow b with | some (.inr n) => some (Sum.inr n) | _ => none) = _
    rw [m]
  · obtain ⟨n1, n2⟩ := e.nt a vs k
    refine ⟨?_, ?_⟩
    · rw [f2 a (fun i h => by rw [n2] at h; cases h)]
      exact n1
    · show (match ow a with | some (.inr n) => some (Sum.inr n) | _ => none) = none
      rw [n2]
  · obtain ⟨ow', e'⟩ := E'
    refine ⟨fun a => match ow a with | some (.inl i) => some (.inl i) | _ => (match ow' a with | some (.inr n) => some (.inr n) | _ => none), e'.sub, fun a o k => ?_, fun a x k => ?_, e.len, fun i s k => ?_, e'.rlen, fun n o k => ?_, fun a vs k => ?_⟩
    · have nk : ∀ i, ow a ≠ some (.inl i) := fun i h => by
        obtain ⟨_, k2, _⟩ := e.ows a _ h
        rw [k2] at k
        cases k
      have k' : F' a = some o := by
        rw [f2 a nk]
        exact k
      exact e'.fr a o k'
    · have k' : (match ow a with | some (.inl i) => some (Sum.inl i) | _ => (match ow' a with | some (.inr n) => some (.inr n) | _ => none)) = some x := k
      have own : ∀ i, ow a = some (.inl i) → S' a = none ∧ F a = none ∧ ∃ o, H' a = some o := fun i z => by
        obtain ⟨m1, m2, o, m3⟩ := e.ows a _ z
        have m4 : F' a = some o := by
          rw [f1 a i z]
          exact m3
        obtain ⟨m5, m6⟩ := e'.fr a o m4
        exact ⟨m6, m2, o, m5⟩
      have oth : (∀ i, ow a ≠ some (.inl i)) → (∃ n, ow' a = some (.inr n)) → S' a = none ∧ F a = none ∧ ∃ o, H' a = some o := fun nz ⟨n, z'⟩ => by
        obtain ⟨m1, m2, m3⟩ := e'.ows a _ z'
        refine ⟨m1, ?_, m3⟩
        rw [f2 a nz] at m2
        exact m2
      cases z : ow a with
      | none =>
        rw [z] at k'
        refine oth (fun i h => by rw [z] at h; cases h) ?_
        cases z' : ow' a with
        | none => rw [z'] at k'; cases k'
        | some y =>
          cases y with
          | inl _ => rw [z'] at k'; cases k'
          | inr n => exact ⟨n, rfl⟩
      | some y =>
        cases y with
        | inl i => exact own i z
        | inr m =>
          rw [z] at k'
          refine oth (fun i h => by rw [z] at h; cases h) ?_
          cases z' : ow' a with
          | none => rw [z'] at k'; cases k'
          | some y =>
            cases y with
            | inl _ => rw [z'] at k'; cases k'
            | inr n => exact ⟨n, rfl⟩
    · refine (e.slot i s k).mono eS er fun b m => ?_
      obtain ⟨_, _, o, m3⟩ := e.ows b _ m
      refine ⟨?_, ?_⟩
      · show (match ow b with | some (.inl i) => some (Sum.inl i) | _ => _) = _
        rw [m]
      · have m4 : F' b = some o := by
          rw [f1 b i m]
          exact m3
        rw [(e'.fr b o m4).1, m3]
    · refine (e'.wob n o k).mono (Evl.Ex.refl _) (Rle.refl _) fun b m => ⟨?_, rfl⟩
      obtain ⟨m1, m2, m3⟩ := e'.ows b _ m
      show (match ow b with | some (.inl i) => some (Sum.inl i) | _ => (match ow' b with | some (.inr n) => some (.inr n) | _ => none)) = _
      cases z : ow b with
      | none => rw [m]
      | some y =>
        cases y with
        | inl i =>
          obtain ⟨_, _, o, m4⟩ := e.ows b _ z
          rw [f1 b i z, m4] at m2
          cases m2
        | inr _ =>
          show (match ow' b with | some (.inr n) => some (Sum.inr n) | _ => none) = _
          rw [m]
    · obtain ⟨n1, n2⟩ := e'.nt a vs k
      have nk : ∀ i, ow a ≠ some (.inl i) := fun i z => by
        obtain ⟨_, _, o, m4⟩ := e.ows a _ z
        rw [f1 a i z, m4] at n1
        cases n1
      refine ⟨by rw [f2 a nk] at n1; exact n1, ?_⟩
      show (match ow a with | some (.inl i) => some (Sum.inl i) | _ => (match ow' a with | some (.inr n) => some (.inr n) | _ => none)) = none
      cases z : ow a with
      | none => rw [n2]
      | some y =>
        cases y with
        | inl i => exact absurd z (nk i)
        | inr _ =>
          show (match ow' a with | some (.inr n) => some (Sum.inr n) | _ => none) = none
          rw [n2]
end
end Den

namespace Den
open PySem L2
open Evl (Ex)

/-! ### what an expression is worth -/
abbrev Rs (a : Type) := Except Value a × Stt
abbrev ME (a : Type) := Stt → Option (Rs a)
def ret {a : Type} (x : a) : ME a := fun q => some (.ok x, q)
def bnd {a b : Type} (f : ME a) (g : a → ME b) : ME b := fun q => match f q with
  | none => none
  | some (.error c, q') => some (.error c, q')
  | some (.ok x, q') => g x q'
def lft {a : Type} (o : Option a) : ME a := fun q => match o with | none => none | some x => some (.ok x, q)
theorem bnd_eq {a b : Type} (f : ME a) (g : a → ME b) (q : Stt) : bnd f g q = match f q with
  | none => none
  | some (.error c, q') => some (.error c, q')
  | some (.ok x, q') => g x q' := rfl
theorem bnd_ok {a b : Type} {f : ME a} {g : a → ME b} {q q' : Stt} {x : a} (h : f q = some (.ok x, q')) : bnd f g q = g x q' := by
  rw [bnd_eq, h]
theorem ret_eq {a : Type} (x : a) (q : Stt) : ret x q = some (.ok x, q) := rfl
theorem lft_some {a : Type} (x : a) (q : Stt) : lft (some x) q = some (.ok x, q) := rfl
/-- a representation -/
abbrev RP (a t : Type) := Hp → List Addr → a → t → Prop
def Mono {a t : Type} (rep : RP a t) : Prop := ∀ (S S' : Hp) (r r' : List Addr) (x : a) (v : t), Ex S S' → Rle r r' → rep S r x v → rep S' r' x v
def Post {a t : Type} (rep : RP a t) (K : PySem.W.Frag) (W : WX) (F S : Hp) (r : List Addr) (σ : L2.St) (z : Rs a) (Q : t → Hp → Prop) : Prop :=
  match z with
  | (.ok x, q') => ∀ v S' H' r', Ex S S' → Rle r r' → Env K F S' H' r' σ q' → rep S' r' x v → Q v H'
  | (.error c, q') => ∀ S' H' r', Ex S S' → Rle r r' → Env K F S' H' r' σ q' → W c none σ H'
abbrev TX (t : Type) := L2.St → Hp → (t → Hp → Prop) → Prop
def Tok {a t : Type} (rep : RP a t) (K : PySem.W.Frag) (W : WX) (te : TX t) (f : ME a) : Prop :=
  ∀ F S H r σ q z, Env K F S H r σ q → f q = some z → ∀ Q, Post rep K W F S r σ z Q → te σ H Q
section
variable {a b t u : Type} {rep : RP a t} {rep2 : RP b u} {K : PySem.W.Frag} {W : WX} {te : TX t} {f : ME a} {g : a → ME b} {F S S' H : Hp} {r r' : List Addr} {σ : L2.St} {z : Rs a} {Q : t → Hp → Prop}
theorem Post.mono (e : Ex S S') (k : Rle r r') (h : Post rep K W F S r σ z Q) : Post rep K W F S' r' σ z Q := by
  obtain ⟨x, q⟩ := z
  cases x with
  | error c => exact fun S2 H2 r2 e2 k2 E => h S2 H2 r2 (e.trans e2) (k.trans k2) E
  | ok x => exact fun v S2 H2 r2 e2 k2 E rp => h v S2 H2 r2 (e.trans e2) (k.trans k2) E rp
/-- what comes behind the first value -/
def Beh (rep : RP a t) (rep2 : RP b u) (K : PySem.W.Frag) (W : WX) (t2 : t → TX u) (g : a → ME b) : Prop :=
  ∀ x v F S H r σ q z, Env K F S H r σ q → rep S r x v → g x q = some z → ∀ Q, Post rep2 K W F S r σ z Q → t2 v σ H Q
theorem Tok.bind {t2 : t → TX u} (h1 : Tok rep K W te f) (h2 : Beh rep rep2 K W t2 g) : Tok rep2 K W (fun σ H Q => te σ H fun v H1 => t2 v σ H1 Q) (bnd f g) := by
  intro F S H r σ q z E hz Q P
  rw [bnd_eq] at hz
  cases e : f q with
  | none => rw [e] at hz; cases hz
  | some z1 =>
    obtain ⟨x, q1⟩ := z1
    rw [e] at hz
    cases x with
    | error c =>
      cases hz
      exact h1 F S H r σ q _ E e _ P
    | ok x => exact h1 F S H r σ q _ E e _ fun v S1 H1 r1 e1 k1 E1 rp => h2 x v F S1 H1 r1 σ q1 z E1 rp hz Q (P.mono e1 k1)
/-- the same, the second part's own judgement, the first value kept -/
theorem Beh.bind {c w : Type} {rep3 : RP c w} {t2 : TX u} {g2 : ME b} {t3 : t → u → TX w} {g3 : a → b → ME c} (m : Mono rep) (h1 : Tok rep2 K W t2 g2)
    (h2 : ∀ x v y w' F S H r σ q z, Env K F S H r σ q → rep S r x v → rep2 S r y w' → g3 x y q = some z → ∀ Q, Post rep3 K W F S r σ z Q → t3 v w' σ H Q) :
    Beh rep rep3 K W (fun v σ H Q => t2 σ H fun w' H1 => t3 v w' σ H1 Q) (fun x => bnd g2 (g3 x)) := by
  intro x v F S H r σ q z E rp hz0 Q P
  have hz : bnd g2 (g3 x) q = some z := hz0
  rw [bnd_eq] at hz
  cases e : g2 q with
  | none => rw [e] at hz; cases hz
  | some z1 =>
    obtain ⟨y, q1⟩ := z1
    rw [e] at hz
    cases y with
    | error c =>
      cases hz
      exact h1 F S H r σ q _ E e _ P
    | ok y => exact h1 F S H r σ q _ E e _ fun w' S1 H1 r1 e1 k1 E1 rp1 => h2 x v y w' F S1 H1 r1 σ q1 z E1 (m _ _ _ _ _ _ e1 k1 rp) rp1 hz Q (P.mono e1 k1)
end
/-! ### the representations -/
abbrev RX (K : PySem.W.Frag) : RP XV V := fun S r x v => XRep K S r x v
abbrev RXL (K : PySem.W.Frag) : RP (List XV) (List V) := fun S r x v => XRepL K S r x v
abbrev RB : RP Bool Bool := fun _ _ x v => x = v
theorem monoX {K : PySem.W.Frag} : Mono (RX K) := fun _ _ _ _ _ _ e k h => XRep.mono e k h
theorem monoXL {K : PySem.W.Frag} : Mono (RXL K) := fun _ _ _ _ _ _ e k h => XRepL.mono e k h
theorem monoB : Mono RB := fun _ _ _ _ _ _ _ _ h => h

structure IsE (X : Cx) (W : WX) (e : Expr) (t : TE) (f : ME XV) : Prop where
  pe : PE X e t
  ok : Tok (RX X.K) X.K W t f
structure IsA (X : Cx) (W : WX) (es : List Expr) (t : TA) (f : ME (List XV)) : Prop where
  pa : PA X es t
  ok : Tok (RXL X.K) X.K W t f
structure IsT (X : Cx) (W : WX) (e : Expr) (t : TT) (f : ME Bool) : Prop where
  pt : PT X e t
  ok : Tok RB X.K W t f
structure IsW (X : Cx) (W : WX) (e : Expr) (t : TT) (f : ME Bool) : Prop where
  pw : PW X e t
  ok : Tok RB X.K W t f

section
variable {K : PySem.W.Frag} {F F' S S' H H' : Hp} {r r' : List Addr} {σ σ' : L2.St} {q q' : Stt} {i n : Nat} {p a : Addr} {o o' : HO}
theorem set_self' {σ : L2.St} {i : Nat} {x : Option V} (h : σ[i]? = some x) : σ.set i x = σ := by
  apply List.ext_getElem?
  intro j
  by_cases e : i = j
  · subst e
    have hl := (List.getElem?_eq_some_iff.mp h).1
    rw [List.getElem?_set_self hl, h]
  · rw [List.getElem?_set_ne e]
/-- an owned list is written no more -/
theorem Env.freeze {ds : List D} (E : Env K F S H r σ q) (h : q.sl[i]? = some (.ol ds)) :
    ∃ S' v, Ex S S' ∧ σ[i]? = some (some v) ∧ Rep K S' (.lst ds) v ∧ Env K F S' H r σ { q with sl := q.sl.set i (.dat (.lst ds)) } := by
  obtain ⟨a, o, ha, hH, hF, E1, ow, hw, hs⟩ := E.disown h fun ow hk => by
    obtain ⟨a, vs, h1, h2, h3, h4⟩ := hk
    refine ⟨a, _, ?_, h2, h3⟩
    cases e : σ[i]? with
    | none => rw [e] at h1; cases h1
    | some x => rw [e] at h1; exact congrArg some h1
  obtain ⟨a', vs, h1, h2, h3, h4⟩ := hs
  cases h1
  rw [hH] at h3
  cases h3
  obtain ⟨E2, ex⟩ := E1.settle hF
  have rp : Rep K (upd S a (.lst vs)) (.lst ds) (.ref a) := by
    rw [Rep]
    exact ⟨a, vs, rfl, upd_same, RepL.mono ex _ _ h4⟩
  refine ⟨_, .ref a, ex, ha, rp, ?_⟩
  have hl := (List.getElem?_eq_some_iff.mp h).1
  have E3 := E2.putD i rp (by simpa using hl)
  rw [set_self' ha] at E3
  have e : ({ sl := (q.sl.set i .un).set i (.dat (.lst ds)), w := q.w } : Stt) = { q with sl := q.sl.set i (.dat (.lst ds)) } := by rw [List.set_set]
  rw [← e]
  exact E3
theorem Env.freezeK {ks : List Key} {ds : List D} (E : Env K F S H r σ q) (h : q.sl[i]? = some (.od ks ds)) :
    ∃ S' v, Ex S S' ∧ σ[i]? = some (some v) ∧ Rep K S' (.dic ks ds) v ∧ Env K F S' H r σ { q with sl := q.sl.set i (.dat (.dic ks ds)) } := by
  obtain ⟨a, o, ha, hH, hF, E1, ow, hw, hs⟩ := E.disown h fun ow hk => by
    obtain ⟨a, vs, h1, h2, h3, h4⟩ := hk
    refine ⟨a, _, ?_, h2, h3⟩
    cases e : σ[i]? with
    | none => rw [e] at h1; cases h1
    | some x => rw [e] at h1; exact congrArg some h1
  obtain ⟨a', vs, h1, h2, h3, h5, h4⟩ := hs
  cases h1
  rw [hH] at h3
  cases h3
  obtain ⟨E2, ex⟩ := E1.settle hF
  have rp : Rep K (upd S a (.dK (ks.zip vs))) (.dic ks ds) (.ref a) := by
    rw [Rep]
    exact ⟨a, vs, rfl, upd_same, h5, RepL.mono ex _ _ h4⟩
  refine ⟨_, .ref a, ex, ha, rp, ?_⟩
  have hl := (List.getElem?_eq_some_iff.mp h).1
  have E3 := E2.putD i rp (by simpa using hl)
  rw [set_self' ha] at E3
  have e : ({ sl := (q.sl.set i .un).set i (.dat (.dic ks ds)), w := q.w } : Stt) = { q with sl := q.sl.set i (.dat (.dic ks ds)) } := by rw [List.set_set]
  rw [← e]
  exact E3
theorem Env.freezeT {ks : List (List Key)} {ds : List D} (E : Env K F S H r σ q) (h : q.sl[i]? = some (.ot ks ds)) :
    ∃ S' v, Ex S S' ∧ σ[i]? = some (some v) ∧ Rep K S' (.dit ks ds) v ∧ Env K F S' H r σ { q with sl := q.sl.set i (.dat (.dit ks ds)) } := by
  obtain ⟨a, o, ha, hH, hF, E1, ow, hw, hs⟩ := E.disown h fun ow hk => by
    obtain ⟨a, vs, h1, h2, h3, h4⟩ := hk
    refine ⟨a, _, ?_, h2, h3⟩
    cases e : σ[i]? with
    | none => rw [e] at h1; cases h1
    | some x => rw [e] at h1; exact congrArg some h1
  obtain ⟨a', vs, h1, h2, h3, h5, h4⟩ := hs
  cases h1
  rw [hH] at h3
  cases h3
  obtain ⟨E2, ex⟩ := E1.settle hF
  have rp : Rep K (upd S a (.dT (ks.zip vs))) (.dit ks ds) (.ref a) := by
    rw [Rep]
    exact ⟨a, vs, rfl, upd_same, h5, RepL.mono ex _ _ h4⟩
  refine ⟨_, .ref a, ex, ha, rp, ?_⟩
  have hl := (List.getElem?_eq_some_iff.mp h).1
  have E3 := E2.putD i rp (by simpa using hl)
  rw [set_self' ha] at E3
  have e : ({ sl := (q.sl.set i .un).set i (.dat (.dit ks ds)), w := q.w } : Stt) = { q with sl := q.sl.set i (.dat (.dit ks ds)) } := by rw [List.set_set]
  rw [← e]
  exact E3
end
def eVar (i : Nat) : ME XV := fun q => match q.sl[i]? with
  | some (.dat d) => some (.ok (.d d), q)
  | some (.hnd n) => some (.ok (.h n), q)
  | some (.ol ds) => some (.ok (.d (.lst ds)), { q with sl := q.sl.set i (.dat (.lst ds)) })
  | some (.od ks ds) => some (.ok (.d (.dic ks ds)), { q with sl := q.sl.set i (.dat (.dic ks ds)) })
  | some (.ot ks ds) => some (.ok (.d (.dit ks ds)), { q with sl := q.sl.set i (.dat (.dit ks ds)) })
  | _ => none
theorem tok_var {K : PySem.W.Frag} {W : WX} (i : Nat) : Tok (RX K) K W (tVar i) (eVar i) := by
  intro F S H r σ q z E hz Q P
  unfold eVar at hz
  cases e : q.sl[i]? with
  | none => rw [e] at hz; cases hz
  | some s =>
    rw [e] at hz
    cases s with
    | un => cases hz
    | dat d =>
      cases hz
      obtain ⟨ow, e0⟩ := id E
      obtain ⟨v, h1, h2⟩ := e0.slot i _ e
      refine ⟨v, ?_, P v S H r (Ex.refl _) (Rle.refl _) E h2⟩
      cases e1 : σ[i]? with
      | none => rw [e1] at h1; cases h1
      | some x => rw [e1] at h1; exact congrArg some h1
    | hnd n =>
      cases hz
      obtain ⟨ow, e0⟩ := id E
      obtain ⟨a, h1, h2⟩ := e0.slot i _ e
      refine ⟨.ref a, ?_, P (.ref a) S H r (Ex.refl _) (Rle.refl _) E ⟨a, h1, rfl⟩⟩
      cases e1 : σ[i]? with
      | none => rw [e1] at h2; cases h2
      | some x => rw [e1] at h2; exact congrArg some h2
    | ol ds =>
      cases hz
      obtain ⟨S', v, ex, hv, rp, E'⟩ := E.freeze e
      exact ⟨v, hv, P v S' H r ex (Rle.refl _) E' rp⟩
    | od ks ds =>
      cases hz
      obtain ⟨S', v, ex, hv, rp, E'⟩ := E.freezeK e
      exact ⟨v, hv, P v S' H r ex (Rle.refl _) E' rp⟩
    | ot ks ds =>
      cases hz
      obtain ⟨S', v, ex, hv, rp, E'⟩ := E.freezeT e
      exact ⟨v, hv, P v S' H r ex (Rle.refl _) E' rp⟩
section
variable {X : Cx} {W : WX} {e e1 e2 e3 : Expr} {es : List Expr} {t t1 t2 t3 : TE} {ta : TA} {f f1 f2 f3 : ME XV} {fa : ME (List XV)} {pos : Pos} {tt tt1 tt2 : TT} {g g1 g2 : ME Bool}
theorem is_v (i : Nat) {x : Str} (hN : X.N[i]? = some x := by rfl) (hv : Vis X.env.scope x := by first | exact Or.inl rfl | exact Or.inr (Or.inl rfl) | exact Or.inr (Or.inr rfl)) (hd : (x == ("__debug__" : Str)) = false := by decide)
    (hcd : (x == ("__classdict__" : Str)) = false := by decide) : IsE X W (.Name x pos) (tVar i) (eVar i) := ⟨pe_var hN hv hd hcd, tok_var i⟩
def eC (d : D) : ME XV := ret (.d d)
theorem tok_c {K : PySem.W.Frag} {d : D} {v : V} (h : ∀ S, Rep K S d v) : Tok (RX K) K W (tC v) (eC d) := by
  intro F S H r σ q z E hz Q P
  cases hz
  exact P v S H r (Ex.refl _) (Rle.refl _) E (h S)
theorem is_int {i : Int} {j} : IsE X W (.Constant (.int i) j pos) (tC (.int i)) (eC (.int i)) := ⟨pe_int, tok_c fun S => by rw [Rep]⟩
theorem is_bl {b : Bool} {j} : IsE X W (.Constant (.bool b) j pos) (tC (.bl b)) (eC (.bl b)) := ⟨pe_bl, tok_c fun S => by rw [Rep]⟩
theorem is_non {j} : IsE X W (.Constant .none j pos) (tC .non) (eC .non) := ⟨pe_non, tok_c fun S => by rw [Rep]⟩
theorem is_str {s : Str} {j} : IsE X W (.Constant (.str s) j pos) (tC (.str s)) (eC (.str s)) := ⟨pe_str, tok_c fun S => by rw [Rep]⟩

/-! ### operators on values -/
/-- what a value is worth just now: a list or a dict by what it holds in H -/
def RepH (K : PySem.W.Frag) (S H : Hp) : D → V → Prop
  | .lst ds, v => ∃ a vs, v = .ref a ∧ H a = some (.lst vs) ∧ RepL K S ds vs
  | .dic ks ds, v => ∃ a vs, v = .ref a ∧ H a = some (.dK (ks.zip vs)) ∧ ks.length = ds.length ∧ RepL K S ds vs
  | .dit ks ds, v => ∃ a vs, v = .ref a ∧ H a = some (.dT (ks.zip vs)) ∧ ks.length = ds.length ∧ RepL K S ds vs
  | d, v => Rep K S d v
theorem Rep.toH {K : PySem.W.Frag} {S H : Hp} (e : Ex S H) {d : D} {v : V} (h : Rep K S d v) : RepH K S H d v := by
  cases d with
  | lst ds =>
    rw [Rep] at h
    obtain ⟨a, vs, h1, h2, h3⟩ := h
    exact ⟨a, vs, h1, e _ _ h2, h3⟩
  | dic ks ds =>
    rw [Rep] at h
    obtain ⟨a, vs, h1, h2, h3, h4⟩ := h
    exact ⟨a, vs, h1, e _ _ h2, h3, h4⟩
  | dit ks ds =>
    rw [Rep] at h
    obtain ⟨a, vs, h1, h2, h3, h4⟩ := h
    exact ⟨a, vs, h1, e _ _ h2, h3, h4⟩
  | _ => exact h
def RepHL (K : PySem.W.Frag) (S H : Hp) : List D → List V → Prop
  | [], vs => vs = []
  | d :: ds, vs => ∃ v t, vs = v :: t ∧ RepH K S H d v ∧ RepHL K S H ds t
theorem RepL.toH {K : PySem.W.Frag} {S H : Hp} (e : Ex S H) : ∀ {ds : List D} {vs : List V}, RepL K S ds vs → RepHL K S H ds vs
  | [], vs, h => by
    rw [RepL] at h
    exact h
  | d :: ds, vs, h => by
    rw [RepL] at h
    obtain ⟨v, r, h1, h2, h3⟩ := h
    exact ⟨v, r, h1, h2.toH e, h3.toH e⟩
def R2ok (K : PySem.W.Frag) (r2 : R2) (g : D → D → Option D) : Prop :=
  ∀ F S H r σ q x y z vx vy, Env K F S H r σ q → RepH K S H x vx → RepH K S H y vy → g x y = some z → ∀ Q : VK, (∀ v S' H', Ex S S' → Env K F S' H' r σ q → Rep K S' z v → Q v H') → r2 vx vy H Q
def op2 (g : D → D → Option D) : XV → XV → Option XV
  | .d x, .d y => (g x y).map .d
  | _, _ => none
def eOp (g : D → D → Option D) (fa fb : ME XV) : ME XV := bnd fa fun x => bnd fb fun y => lft (op2 g x y)
theorem tok_op {K : PySem.W.Frag} {r2 : R2} {g : D → D → Option D} (hr : R2ok K r2 g) (h1 : Tok (RX K) K W t1 f1) (h2 : Tok (RX K) K W t2 f2) : Tok (RX K) K W (tOp r2 t1 t2) (eOp g f1 f2) := by
  refine Tok.bind (t2 := fun x σ H Q => t2 σ H fun y H1 => r2 x y H1 Q) h1 (Beh.bind (t3 := fun x y σ H Q => r2 x y H Q) monoX h2 fun x v y w F S H r σ q z E rx ry hz Q P => ?_)
  cases x with
  | h n => cases hz
  | d x =>
    cases y with
    | h n => cases hz
    | d y =>
      have hz' : lft ((g x y).map XV.d) q = some z := hz
      cases eg : g x y with
      | none => rw [eg] at hz'; cases hz'
      | some w =>
        rw [eg] at hz'
        cases hz'
        exact hr F S H r σ q x y w v _ E (Rep.toH E.sub rx) (Rep.toH E.sub ry) eg Q fun v' S' H' ex E' rp => P v' S' H' r ex (Rle.refl _) E' rp
theorem is_op {op : Operator} {r2 : R2} {g : D → D → Option D} (ho : OpR X (binaryOp op) r2) (hr : R2ok X.K r2 g) (h1 : IsE X W e1 t1 f1) (h2 : IsE X W e2 t2 f2) : IsE X W (.BinOp e1 op e2 pos) (tOp r2 t1 t2) (eOp g f1 f2) :=
  ⟨pe_op ho h1.pe h2.pe, tok_op hr h1.ok h2.ok⟩
theorem is_cmp {op : CmpOp} {r2 : R2} {g : D → D → Option D} (ho : OpR X (compareOp op) r2) (hr : R2ok X.K r2 g) (h1 : IsE X W e1 t1 f1) (h2 : IsE X W e2 t2 f2) (hm : behindInMarks op e2 = false) : IsE X W (.Compare e1 [op] [e2] pos) (tOp r2 t1 t2) (eOp g f1 f2) :=
  ⟨pe_cmpR ho h1.pe h2.pe hm, tok_op hr h1.ok h2.ok⟩
def toB : XV → Option Bool
  | .d (.bl b) => some b
  | _ => none
def tOf (f : ME XV) : ME Bool := bnd f fun x => lft (toB x)
theorem tok_test {K : PySem.W.Frag} (h : Tok (RX K) K W t f) : Tok RB K W (tTest t) (tOf f) := by
  refine Tok.bind (t2 := fun x σ H Q => ∃ k, x = .bl k ∧ Q k H) h fun x v F S H r σ q z E rx hz Q P => ?_
  cases x with
  | h n => cases hz
  | d x =>
    cases x with
    | bl b =>
      cases hz
      have e : v = .bl b := by
        have q : Rep K S (.bl b) v := rx
        rw [Rep] at q
        exact q
      exact ⟨b, e, P b S H r (Ex.refl _) (Rle.refl _) E rfl⟩
    | _ => cases hz
theorem is_tcmp {op : CmpOp} {r2 : R2} {g : D → D → Option D} (ho : OpR X (compareOp op) r2) (hr : R2ok X.K r2 g) (h1 : IsE X W e1 t1 f1) (h2 : IsE X W e2 t2 f2) (hm : behindInMarks op e2 = false) : IsT X W (.Compare e1 [op] [e2] pos) (tTest (tOp r2 t1 t2)) (tOf (eOp g f1 f2)) :=
  ⟨pt_cmpR ho h1.pe h2.pe hm, tok_test (tok_op hr h1.ok h2.ok)⟩
theorem is_tval (h : IsE X W e t f) (he : ∀ whole, isTrue e X.env whole = (do let v ← whole; standAt e.pos; holding [v] (truthy v)) := by intro _; rfl) : IsT X W e (tB t) (tOf f) :=
  ⟨pt_val h.pe he, tok_test h.ok⟩
/-! ### and, or, not -/
def tAndB (f g : ME Bool) : ME Bool := bnd f fun b => if b then g else ret false
def tOrB (f g : ME Bool) : ME Bool := bnd f fun b => if b then ret true else g
def tNotB (f : ME Bool) : ME Bool := bnd f fun b => ret (!b)
theorem tok_and {K : PySem.W.Frag} (h1 : Tok RB K W tt1 g1) (h2 : Tok RB K W tt2 g2) : Tok RB K W (tAnd tt1 tt2) (tAndB g1 g2) := by
  refine Tok.bind (t2 := fun c σ H Q => if c = true then tt2 σ H Q else Q false H) h1 fun x v F S H r σ q z E rx hz Q P => ?_
  have e : x = v := rx
  subst e
  cases x with
  | true => exact iteT (h2 F S H r σ q z E hz Q P)
  | false =>
    cases hz
    exact iteF (P false S H r (Ex.refl _) (Rle.refl _) E rfl)
theorem tok_or {K : PySem.W.Frag} (h1 : Tok RB K W tt1 g1) (h2 : Tok RB K W tt2 g2) : Tok RB K W (tOr tt1 tt2) (tOrB g1 g2) := by
  refine Tok.bind (t2 := fun c σ H Q => if c = true then Q true H else tt2 σ H Q) h1 fun x v F S H r σ q z E rx hz Q P => ?_
  have e : x = v := rx
  subst e
  cases x with
  | false => exact iteF (h2 F S H r σ q z E hz Q P)
  | true =>
    cases hz
    exact iteT (P true S H r (Ex.refl _) (Rle.refl _) E rfl)
theorem tok_not {K : PySem.W.Frag} (h1 : Tok RB K W tt1 g1) : Tok RB K W (tNot tt1) (tNotB g1) := by
  refine Tok.bind (t2 := fun c σ H Q => Q (!c) H) h1 fun x v F S H r σ q z E rx hz Q P => ?_
  have e : x = v := rx
  subst e
  cases hz
  exact P (!x) S H r (Ex.refl _) (Rle.refl _) E rfl
theorem is_wand1 (h : IsT X W e tt g) : IsW X W (.BoolOp .And [e] pos) tt g := ⟨pw_and1 h.pt, h.ok⟩
theorem is_wor1 (h : IsT X W e tt g) : IsW X W (.BoolOp .Or [e] pos) tt g := ⟨pw_or1 h.pt, h.ok⟩
theorem is_wand (h1 : IsT X W e tt1 g1) (h2 : IsW X W (.BoolOp .And (e2 :: es) pos) tt2 g2) : IsW X W (.BoolOp .And (e :: e2 :: es) pos) (tAnd tt1 tt2) (tAndB g1 g2) := ⟨pw_and h1.pt h2.pw, tok_and h1.ok h2.ok⟩
theorem is_wor (h1 : IsT X W e tt1 g1) (h2 : IsW X W (.BoolOp .Or (e2 :: es) pos) tt2 g2) : IsW X W (.BoolOp .Or (e :: e2 :: es) pos) (tOr tt1 tt2) (tOrB g1 g2) := ⟨pw_or h1.pt h2.pw, tok_or h1.ok h2.ok⟩
theorem is_tw (h : IsW X W e tt g) : IsT X W e tt g := ⟨h.pw.pt, h.ok⟩
theorem is_tnot (h : IsT X W e tt g) : IsT X W (.UnaryOp .Not e pos) (tNot tt) (tNotB g) := ⟨pt_not h.pt, tok_not h.ok⟩
def ofB (g : ME Bool) : ME XV := bnd g fun b => ret (.d (.bl b))
/-- and, or, not as values of truths -/
theorem tok_andV {K : PySem.W.Frag} (h1 : Tok (RX K) K W t1 f1) (h2 : Tok (RX K) K W t2 f2) : Tok (RX K) K W (tAndV t1 t2) (bnd (tOf f1) fun b => if b then f2 else ret (.d (.bl false))) := by
  intro F S H r σ q z E hz Q P
  refine Tok.bind (t2 := fun c σ H Q => if c = true then t2 σ H Q else Q (.bl false) H) (tok_test h1) (fun x v F S H r σ q z E rx hz Q P => ?_) F S H r σ q z E hz Q P
  have e : x = v := rx
  subst e
  cases x with
  | true => exact iteT (h2 F S H r σ q z E hz Q P)
  | false =>
    cases hz
    exact iteF (P (.bl false) S H r (Ex.refl _) (Rle.refl _) E (show Rep K S (.bl false) (.bl false) by rw [Rep]))
theorem tok_orV {K : PySem.W.Frag} (h1 : Tok (RX K) K W t1 f1) (h2 : Tok (RX K) K W t2 f2) : Tok (RX K) K W (tOrV t1 t2) (bnd (tOf f1) fun b => if b then ret (.d (.bl true)) else f2) := by
  intro F S H r σ q z E hz Q P
  refine Tok.bind (t2 := fun c σ H Q => if c = true then Q (.bl true) H else t2 σ H Q) (tok_test h1) (fun x v F S H r σ q z E rx hz Q P => ?_) F S H r σ q z E hz Q P
  have e : x = v := rx
  subst e
  cases x with
  | false => exact iteF (h2 F S H r σ q z E hz Q P)
  | true =>
    cases hz
    exact iteT (P (.bl true) S H r (Ex.refl _) (Rle.refl _) E (show Rep K S (.bl true) (.bl true) by rw [Rep]))
end
end Den

namespace Den
open PySem L2
open Evl (Ex)
section
variable {X : Cx} {W : WX} {e e1 e2 e3 : Expr} {es : List Expr} {t t1 t2 t3 : TE} {ta : TA} {f f1 f2 f3 : ME XV} {fa : ME (List XV)} {pos : Pos} {tt tt1 tt2 : TT} {g g1 g2 : ME Bool} {K : PySem.W.Frag}
/-! ### if-expressions, argument lists, displays -/
theorem tok_if (h : Tok RB K W tt g) (h1 : Tok (RX K) K W t1 f1) (h2 : Tok (RX K) K W t2 f2) : Tok (RX K) K W (tIf tt t1 t2) (bnd g fun b => if b then f1 else f2) := by
  refine Tok.bind (t2 := fun c σ H Q => if c = true then t1 σ H Q else t2 σ H Q) h fun x v F S H r σ q z E rx hz Q P => ?_
  have e : x = v := rx
  subst e
  cases x with
  | true => exact iteT (h1 F S H r σ q z E hz Q P)
  | false => exact iteF (h2 F S H r σ q z E hz Q P)
theorem is_if {c : Expr} (h : IsT X W c tt g) (h1 : IsE X W e1 t1 f1) (h2 : IsE X W e2 t2 f2) : IsE X W (.IfExp c e1 e2 pos) (tIf tt t1 t2) (bnd g fun b => if b then f1 else f2) := ⟨pe_ifExp h.pt h1.pe h2.pe, tok_if h.ok h1.ok h2.ok⟩
theorem is_eand1 {op} (h : IsE X W e t f) : IsE X W (.BoolOp op [e] pos) t f := ⟨pe_one h.pe, h.ok⟩
theorem is_eand (h1 : IsE X W e1 t1 f1) (h2 : IsE X W (.BoolOp .And (e2 :: es) pos) t2 f2) : IsE X W (.BoolOp .And (e1 :: e2 :: es) pos) (tAndV t1 t2) (bnd (tOf f1) fun b => if b then f2 else ret (.d (.bl false))) := ⟨pe_and h1.pe h2.pe, tok_andV h1.ok h2.ok⟩
theorem is_eor (h1 : IsE X W e1 t1 f1) (h2 : IsE X W (.BoolOp .Or (e2 :: es) pos) t2 f2) : IsE X W (.BoolOp .Or (e1 :: e2 :: es) pos) (tOrV t1 t2) (bnd (tOf f1) fun b => if b then ret (.d (.bl true)) else f2) := ⟨pe_or h1.pe h2.pe, tok_orV h1.ok h2.ok⟩
theorem is_enot (h1 : IsE X W e1 t1 f1) : IsE X W (.UnaryOp .Not e1 pos) (tNotV t1) (bnd (tOf f1) fun b => ret (.d (.bl (!b)))) := by
  refine ⟨pe_not h1.pe, fun F S H r σ q z E hz Q P => ?_⟩
  refine Tok.bind (t2 := fun c σ H Q => Q (.bl (!c)) H) (rep2 := RX X.K) (tok_test h1.ok) (fun x v F S H r σ q z E rx hz Q P => ?_) F S H r σ q z E hz Q P
  have e : x = v := rx
  subst e
  cases hz
  exact P (.bl (!x)) S H r (Ex.refl _) (Rle.refl _) E (show Rep X.K S (.bl (!x)) (.bl (!x)) by rw [Rep])
def aNil : ME (List XV) := ret []
def aCons (f : ME XV) (fa : ME (List XV)) : ME (List XV) := bnd f fun x => bnd fa fun xs => ret (x :: xs)
theorem is_anil : IsA X W [] tNil aNil := ⟨pa_nil, fun F S H r σ q z E hz Q P => by
  cases hz
  exact P [] S H r (Ex.refl _) (Rle.refl _) E rfl⟩
theorem is_acons (h : IsE X W e t f) (h1 : IsA X W es ta fa) (hs : starEach (e :: es) X.env = (false, eval e X.env) :: starEach es X.env := by rfl) : IsA X W (e :: es) (tCons t ta) (aCons f fa) := by
  refine ⟨pa_cons h.pe h1.pa hs, ?_⟩
  refine Tok.bind (t2 := fun x σ H Q => ta σ H fun xs H1 => Q (x :: xs) H1) h.ok (Beh.bind (t3 := fun x xs σ H Q => Q (x :: xs) H) monoX h1.ok fun x v y w F S H r σ q z E rx ry hz Q P => ?_)
  cases hz
  exact P (v :: w) S H r (Ex.refl _) (Rle.refl _) E ⟨v, w, rfl, rx, ry⟩
def allD : List XV → Option (List D)
  | [] => some []
  | .d d :: xs => (allD xs).map (d :: ·)
  | .h _ :: _ => none
theorem allD_rep {S : Hp} {r : List Addr} : ∀ {xs : List XV} {ds : List D} {vs : List V}, allD xs = some ds → XRepL K S r xs vs → RepL K S ds vs
  | [], ds, vs, h, k => by
    cases h
    rw [RepL]
    exact k
  | .h _ :: _, _, _, h, _ => by cases h
  | .d d :: xs, ds, vs, h, k => by
    obtain ⟨v, t, rfl, k1, k2⟩ := k
    unfold allD at h
    cases e : allD xs with
    | none => rw [e] at h; cases h
    | some es =>
      rw [e] at h
      cases h
      exact RepL.cons k1 (allD_rep e k2)
theorem allD_map : ∀ ds : List D, allD (ds.map XV.d) = some ds
  | [] => rfl
  | d :: ds => by
    show (allD (ds.map XV.d)).map _ = _
    rw [allD_map ds]
    rfl
def big : Nat := 100000
theorem big_line {n : Nat} (h : n ≤ big) : n ≤ sizeLine := Nat.le_trans h (by decide)
def eTup (fa : ME (List XV)) : ME XV := bnd fa fun xs => lft ((allD xs).bind fun ds => if ds.length ≤ big then some (.d (.tup ds)) else none)
theorem lftb {a b : Type} {o : Option a} {k : a → Option b} {q : Stt} {z : Rs b} (h : lft (o.bind k) q = some z) : ∃ x y, o = some x ∧ k x = some y ∧ z = (.ok y, q) := by
  cases e : o with
  | none => rw [e] at h; cases h
  | some x =>
    rw [e] at h
    have h' : lft (k x) q = some z := h
    cases e2 : k x with
    | none => rw [e2] at h'; cases h'
    | some y =>
      rw [e2] at h'
      cases h'
      exact ⟨x, y, rfl, e2, rfl⟩
theorem ifs {a : Type} {c : Prop} [Decidable c] {x y : a} (h : (if c then some x else none) = some y) : c ∧ x = y := by
  by_cases k : c
  · rw [if_pos k] at h
    exact ⟨k, Option.some.inj h⟩
  · rw [if_neg k] at h
    cases h
theorem is_tup {x1} (h : IsA X W es ta fa) : IsE X W (.Tuple es x1 pos) (tTup ta) (eTup fa) := by
  refine ⟨pe_tup h.pa, ?_⟩
  refine Tok.bind (t2 := fun (xs : List V) (σ : L2.St) (H : Hp) (Q : VK) => xs.length ≤ sizeLine ∧ ∀ p, H p = none → Q (V.ref p) (upd H p (.tup xs))) h.ok fun x v F S H r σ q z E rx hz Q P => ?_
  obtain ⟨ds, y, e1, e2, e3⟩ := lftb hz
  obtain ⟨hl, e4⟩ := ifs e2
  subst e3
  subst e4
  have rp := allD_rep e1 rx
  refine ⟨by rw [← rp.length]; exact big_line hl, fun p hp => ?_⟩
  obtain ⟨E2, ex⟩ := E.newT hp v
  refine P (.ref p) _ _ r ex (Rle.refl _) E2 ?_
  show Rep X.K _ (.tup ds) _
  rw [Rep]
  exact ⟨p, v, rfl, upd_same, RepL.mono ex _ _ rp⟩
end

/-! ### a fresh list -/
def PostL (K : PySem.W.Frag) (W : WX) (F S : Hp) (r : List Addr) (σ : L2.St) (z : Rs (List D)) (Q : VK) : Prop :=
  match z with
  | (.ok ds, q') => ∀ p vs S' H' r', Ex S S' → Rle r r' → F p = none → Env K (upd F p (.lst vs)) S' H' r' σ q' → RepL K S' ds vs → Q (.ref p) H'
  | (.error c, q') => ∀ S' H' r', Ex S S' → Rle r r' → Env K F S' H' r' σ q' → W c none σ H'
def TokL (K : PySem.W.Frag) (W : WX) (te : TE) (f : ME (List D)) : Prop :=
  ∀ F S H r σ q z, Env K F S H r σ q → f q = some z → ∀ Q, PostL K W F S r σ z Q → te σ H Q
structure IsL (X : Cx) (W : WX) (e : Expr) (t : TE) (f : ME (List D)) : Prop where
  pe : PE X e t
  ok : TokL X.K W t f
section
variable {X : Cx} {W : WX} {e e1 e2 e3 : Expr} {es : List Expr} {t t1 t2 t3 : TE} {ta : TA} {f f1 f2 f3 : ME XV} {fa : ME (List XV)} {pos : Pos} {tt tt1 tt2 : TT} {g g1 g2 : ME Bool} {K : PySem.W.Frag} {fl : ME (List D)}
def eL (f : ME (List D)) : ME XV := bnd f fun ds => ret (.d (.lst ds))
theorem tok_ofL (h : TokL K W t fl) : Tok (RX K) K W t (eL fl) := by
  intro F S H r σ q z E hz Q P
  unfold eL at hz
  rw [bnd_eq] at hz
  cases e : fl q with
  | none => rw [e] at hz; cases hz
  | some z1 =>
    obtain ⟨x, q1⟩ := z1
    rw [e] at hz
    cases x with
    | error c =>
      cases hz
      exact h F S H r σ q _ E e _ P
    | ok ds =>
      cases hz
      refine h F S H r σ q _ E e _ fun p vs S1 H1 r1 e1 k1 hp E1 rp => ?_
      obtain ⟨E2, ex⟩ := E1.settle hp
      refine P (.ref p) _ _ r1 (e1.trans ex) k1 E2 ?_
      show Rep K _ (.lst ds) _
      rw [Rep]
      exact ⟨p, vs, rfl, upd_same, RepL.mono ex _ _ rp⟩
theorem is_l (h : IsL X W e t fl) : IsE X W e t (eL fl) := ⟨h.pe, tok_ofL h.ok⟩
/-- what comes behind values, a fresh list made -/
theorem TokL.bind {a u : Type} {rep : RP a u} {te : TX u} {f : ME a} {g : a → ME (List D)} {t2 : u → TE} (h1 : Tok rep K W te f)
    (h2 : ∀ x v F S H r σ q z, Env K F S H r σ q → rep S r x v → g x q = some z → ∀ Q, PostL K W F S r σ z Q → t2 v σ H Q) : TokL K W (fun σ H Q => te σ H fun v H1 => t2 v σ H1 Q) (bnd f g) := by
  intro F S H r σ q z E hz Q P
  rw [bnd_eq] at hz
  cases e : f q with
  | none => rw [e] at hz; cases hz
  | some z1 =>
    obtain ⟨x, q1⟩ := z1
    rw [e] at hz
    cases x with
    | error c =>
      cases hz
      exact h1 F S H r σ q _ E e _ P
    | ok x =>
      refine h1 F S H r σ q _ E e _ fun v S1 H1 r1 e1 k1 E1 rp => h2 x v F S1 H1 r1 σ q1 z E1 rp hz Q ?_
      obtain ⟨x, q⟩ := z
      cases x with
      | error c => exact fun S2 H2 r2 e2 k2 E => P S2 H2 r2 (e1.trans e2) (k1.trans k2) E
      | ok x => exact fun p vs S2 H2 r2 e2 k2 hp E rp => P p vs S2 H2 r2 (e1.trans e2) (k1.trans k2) hp E rp
def lLst (fa : ME (List XV)) : ME (List D) := bnd fa fun xs => lft ((allD xs).bind fun ds => if ds.length ≤ big then some ds else none)
theorem is_lst (h : IsA X W es ta fa) : IsL X W (.List es pos) (tLst ta) (lLst fa) := by
  refine ⟨pe_lst h.pa, ?_⟩
  refine TokL.bind (t2 := fun xs σ H Q => xs.length ≤ sizeLine ∧ ∀ p, H p = none → Q (.ref p) (upd H p (.lst xs))) h.ok fun x v F S H r σ q z E rx hz Q P => ?_
  obtain ⟨ds, y, e1, e2, e3⟩ := lftb hz
  obtain ⟨hl, e4⟩ := ifs e2
  subst e3
  subst e4
  have rp := allD_rep e1 rx
  exact ⟨by rw [← rp.length]; exact big_line hl, fun p hp => P p v S _ r (Ex.refl _) (Rle.refl _) (E.newF hp) (E.add hp (.lst v)) rp⟩
/-! ### built-in calls on values -/
def RCok (K : PySem.W.Frag) (rc : List V → Hp → VK → Prop) (g : List D → Option D) : Prop :=
  ∀ F S H r σ q ds z vs, Env K F S H r σ q → RepHL K S H ds vs → g ds = some z → ∀ Q : VK, (∀ v S' H', Ex S S' → Env K F S' H' r σ q → Rep K S' z v → Q v H') → rc vs H Q
def eCB (g : List D → Option D) (fa : ME (List XV)) : ME XV := bnd fa fun xs => lft ((allD xs).bind fun ds => (g ds).map .d)
theorem tok_cb {rc : List V → Hp → VK → Prop} {g : List D → Option D} (hr : RCok K rc g) (h : Tok (RXL K) K W ta fa) : Tok (RX K) K W (tCB rc ta) (eCB g fa) := by
  refine Tok.bind (t2 := fun xs σ H Q => rc xs H Q) h fun x v F S H r σ q z E rx hz Q P => ?_
  obtain ⟨ds, y, e1, e2, e3⟩ := lftb hz
  subst e3
  cases e4 : g ds with
  | none => rw [e4] at e2; cases e2
  | some w =>
    rw [e4] at e2
    cases e2
    exact hr F S H r σ q ds w v E ((allD_rep e1 rx).toH E.sub) e4 Q fun v' S' H' ex E' rp => P v' S' H' r ex (Rle.refl _) E' rp
theorem is_cb {x : Str} {p : Pos} {id : String} {rc : List V → Hp → VK → Prop} {g : List D → Option D} (hc : CallR X (.builtin id) rc) (hr : RCok X.K rc g) (hg : Gl X x) (hm : X.mg x = none) (hv : bootBuiltins x = some (.builtin id)) (ha : IsA X W (e :: es) ta fa)
    (hn : x ≠ "__name__" := by decide) (hdb : (x == ("__debug__" : Str)) = false := by decide) (he : starEach (e :: es) X.env = (false, eval e X.env) :: starEach es X.env := by rfl) (hpl : (backTo pos (starEach es X.env)).any (·.1) = false := by rfl) :
    IsE X W (.Call (.Name x p) (e :: es) [] pos) (tCB rc ta) (eCB g fa) := ⟨pe_callB hc hg hm hv ha.pa hn hdb he hpl, tok_cb hr ha.ok⟩
theorem is_cty {x : Str} {p : Pos} {T : String} {rc : List V → Hp → VK → Prop} {g : List D → Option D} (hc : CallR X (.type T) rc) (hr : RCok X.K rc g) (hg : Gl X x) (hm : X.mg x = none) (hv : bootBuiltins x = some (.type T)) (ha : IsA X W (e :: es) ta fa)
    (hn : x ≠ "__name__" := by decide) (hdb : (x == ("__debug__" : Str)) = false := by decide) (he : starEach (e :: es) X.env = (false, eval e X.env) :: starEach es X.env := by rfl) (hpl : (backTo pos (starEach es X.env)).any (·.1) = false := by rfl) :
    IsE X W (.Call (.Name x p) (e :: es) [] pos) (tCB rc ta) (eCB g fa) := ⟨pe_callTy hc hg hm hv ha.pa hn hdb he hpl, tok_cb hr ha.ok⟩
/-- a built-in call that makes a list -/
def RLok (K : PySem.W.Frag) (rc : List V → Hp → VK → Prop) (g : List D → Option (List D)) : Prop :=
  ∀ F S H r σ q ds z vs, Env K F S H r σ q → RepHL K S H ds vs → g ds = some z → ∀ Q : VK, (∀ p us, H p = none → RepL K S z us → Q (.ref p) (upd H p (.lst us))) → rc vs H Q
def lCB (g : List D → Option (List D)) (fa : ME (List XV)) : ME (List D) := bnd fa fun xs => lft ((allD xs).bind g)
theorem tokL_cb {rc : List V → Hp → VK → Prop} {g : List D → Option (List D)} (hr : RLok K rc g) (h : Tok (RXL K) K W ta fa) : TokL K W (tCB rc ta) (lCB g fa) := by
  refine TokL.bind (t2 := fun xs σ H Q => rc xs H Q) h fun x v F S H r σ q z E rx hz Q P => ?_
  obtain ⟨ds, y, e1, e2, e3⟩ := lftb hz
  subst e3
  exact hr F S H r σ q ds y v E ((allD_rep e1 rx).toH E.sub) e2 Q fun p us hp rp => P p us S _ r (Ex.refl _) (Rle.refl _) (E.newF hp) (E.add hp (.lst us)) rp
theorem is_lcty {x : Str} {p : Pos} {T : String} {rc : List V → Hp → VK → Prop} {g : List D → Option (List D)} (hc : CallR X (.type T) rc) (hr : RLok X.K rc g) (hg : Gl X x) (hm : X.mg x = none) (hv : bootBuiltins x = some (.type T)) (ha : IsA X W (e :: es) ta fa)
    (hn : x ≠ "__name__" := by decide) (hdb : (x == ("__debug__" : Str)) = false := by decide) (he : starEach (e :: es) X.env = (false, eval e X.env) :: starEach es X.env := by rfl) (hpl : (backTo pos (starEach es X.env)).any (·.1) = false := by rfl) :
    IsL X W (.Call (.Name x p) (e :: es) [] pos) (tCB rc ta) (lCB g fa) := ⟨pe_callTy hc hg hm hv ha.pa hn hdb he hpl, tokL_cb hr ha.ok⟩
theorem is_lcb {x : Str} {p : Pos} {id : String} {rc : List V → Hp → VK → Prop} {g : List D → Option (List D)} (hc : CallR X (.builtin id) rc) (hr : RLok X.K rc g) (hg : Gl X x) (hm : X.mg x = none) (hv : bootBuiltins x = some (.builtin id)) (ha : IsA X W (e :: es) ta fa)
    (hn : x ≠ "__name__" := by decide) (hdb : (x == ("__debug__" : Str)) = false := by decide) (he : starEach (e :: es) X.env = (false, eval e X.env) :: starEach es X.env := by rfl) (hpl : (backTo pos (starEach es X.env)).any (·.1) = false := by rfl) :
    IsL X W (.Call (.Name x p) (e :: es) [] pos) (tCB rc ta) (lCB g fa) := ⟨pe_callB hc hg hm hv ha.pa hn hdb he hpl, tokL_cb hr ha.ok⟩

/-! ### the call of a def -/
abbrev Fn := List XV → List WO → Option (Except Value XV × List WO)
def PostF (K : PySem.W.Frag) (F S : Hp) (r : List Addr) (z : Except Value XV × List WO) (Q : VK) (E : XK) : Prop :=
  match z with
  | (.ok x, w') => ∀ v S' H' r', Ex S S' → Rle r r' → Env K F S' H' r' [] ⟨[], w'⟩ → XRep K S' r' x v → Q v H'
  | (.error c, w') => ∀ S' H' r', Ex S S' → Rle r r' → Env K F S' H' r' [] ⟨[], w'⟩ → E c none H'
def spF (K : PySem.W.Frag) (n : Nat) (G : Fn) : Sp := fun vs H Q E => vs.length = n ∧ ∃ F S r xs w z, Env K F S H r [] ⟨[], w⟩ ∧ XRepL K S r xs vs ∧ G xs w = some z ∧ PostF K F S r z Q E
def eCall (n : Nat) (G : Fn) (fa : ME (List XV)) : ME XV := bnd fa fun xs q => if xs.length = n then (match G xs q.w with
  | none => none
  | some (x, w') => some (x, { q with w := w' })) else none
theorem sp_of {n : Nat} {G : Fn} {F S H : Hp} {r : List Addr} {σ : L2.St} {q : Stt} {z : Rs XV} {xs : List XV} {vs : List V} {Q : VK} (E : Env K F S H r σ q) (rx : XRepL K S r xs vs)
    (hz : (if xs.length = n then (match G xs q.w with | none => none | some (x, w') => some (x, { q with w := w' })) else none) = some z) (P : Post (RX K) K W F S r σ z Q) : spF K n G (vs ++ []) H Q (WE W σ) := by
  by_cases hn : xs.length = n
  · rw [if_pos hn] at hz
    rw [List.append_nil]
    refine ⟨by rw [← rx.length]; exact hn, ?_⟩
    cases e : G xs q.w with
    | none => rw [e] at hz; cases hz
    | some y =>
      obtain ⟨x, w'⟩ := y
      rw [e] at hz
      cases hz
      obtain ⟨F', _, E', back⟩ := E.hide
      refine ⟨F', S, r, xs, q.w, _, E', rx, e, ?_⟩
      cases x with
      | ok x => exact fun v S1 H1 r1 ex k E1 rp => P v S1 H1 r1 ex k (back S1 H1 r1 w' ex k E1) rp
      | error c => exact fun S1 H1 r1 ex k E1 => P S1 H1 r1 ex k (back S1 H1 r1 w' ex k E1)
  · rw [if_neg hn] at hz
    cases hz
/-- a def that raises nothing -/
theorem is_call {CXx : CXT} {k n : Nat} {fA : Addr} {fd : FuncData} {ps : List Str} {G : Fn} {x : Str} {p : Pos} (GF : FnOk X.prog X.w X.K X.mg X.base CX0 k fA fd ps (spF X.K n G)) (hr : Room k X.A) (hg : Gl X x) (hm : X.mg x = some (.ref fA)) (hk : PySem.W.keepIn X.K (.ref fA) = true) (hb : Binds X.K fd ps [])
    (ha : IsA X W (e :: es) ta fa) (hne : ∀ xs w c w', G xs w ≠ some (.error c, w')) (hdb : (x == ("__debug__" : Str)) = false := by decide) (he : starEach (e :: es) X.env = (false, eval e X.env) :: starEach es X.env := by rfl) (hpl : (backTo pos (starEach es X.env)).any (·.1) = false := by rfl) :
    IsE X W (.Call (.Name x p) (e :: es) [] pos) (tCall (spF X.K n G) [] E0 ta) (eCall n G fa) := by
  refine ⟨pe_call GF hr hg hm hk hb .nil pass0 ha.pa hdb he hpl, ?_⟩
  refine Tok.bind (t2 := fun xs σ H Q => spF X.K n G (xs ++ []) H Q E0) ha.ok fun x v F S H r σ q z E rx hz Q P => ?_
  obtain ⟨h1, F', S', r', xs', w', z', h2, h3, h4, h5⟩ := sp_of (W := W) E rx hz P
  refine ⟨h1, F', S', r', xs', w', z', h2, h3, h4, ?_⟩
  obtain ⟨y, w2⟩ := z'
  cases y with
  | ok y => exact h5
  | error c => exact absurd h4 (hne _ _ _ _)
/-- a def that may raise, where W is wished -/
theorem is_callX {k n : Nat} {fA : Addr} {fd : FuncData} {ps : List Str} {G : Fn} {x : Str} {p : Pos} (GF : FnOk X.prog X.w X.K X.mg X.base (L2.CX X.prog X.w) k fA fd ps (spF X.K n G)) (hr : Room k X.A) (hg : Gl X x) (hm : X.mg x = some (.ref fA)) (hk : PySem.W.keepIn X.K (.ref fA) = true) (hb : Binds X.K fd ps [])
    (tk : Takes X W) (ha : IsA X W (e :: es) ta fa) (hdb : (x == ("__debug__" : Str)) = false := by decide) (he : starEach (e :: es) X.env = (false, eval e X.env) :: starEach es X.env := by rfl) (hpl : (backTo pos (starEach es X.env)).any (·.1) = false := by rfl) :
    IsE X W (.Call (.Name x p) (e :: es) [] pos) (tCallS (spF X.K n G) (WE W) ta) (eCall n G fa) := by
  refine ⟨pe_callS GF hr hg hm hk hb (fun σ => passAt tk σ) ha.pa hdb he hpl, ?_⟩
  refine Tok.bind (t2 := fun xs σ H Q => spF X.K n G xs H Q (WE W σ)) ha.ok fun x v F S H r σ q z E rx hz Q P => ?_
  have h := sp_of (W := W) E rx hz P
  rw [List.append_nil] at h
  exact h
end

/-! ### statements -/
inductive Fl where
  | nx (q : Stt) | rt (x : XV) (q : Stt) | bk (q : Stt) | ct (q : Stt) | ex (c : Value) (q : Stt)
abbrev MS := Stt → Option Fl
def PostS (K : PySem.W.Frag) (W : WX) (F S : Hp) (r : List Addr) (z : Fl) (d : Ends) : Prop :=
  match z with
  | .nx q' => ∀ σ' S' H' r', Ex S S' → Rle r r' → Env K F S' H' r' σ' q' → d.nx σ' H'
  | .bk q' => ∀ σ' S' H' r', Ex S S' → Rle r r' → Env K F S' H' r' σ' q' → d.bk σ' H'
  | .ct q' => ∀ σ' S' H' r', Ex S S' → Rle r r' → Env K F S' H' r' σ' q' → d.ct σ' H'
  | .rt x q' => ∀ v σ' S' H' r', Ex S S' → Rle r r' → Env K F S' H' r' σ' q' → XRep K S' r' x v → d.rt v H'
  | .ex c q' => ∀ σ' S' H' r', Ex S S' → Rle r r' → Env K F S' H' r' σ' q' → W c none σ' H'
def TokS (K : PySem.W.Frag) (W : WX) (ts : TS) (g : MS) : Prop :=
  ∀ F S H r σ q z, Env K F S H r σ q → g q = some z → ∀ d, PostS K W F S r z d → ts d σ H
structure IsS (X : Cx) (W : WX) (st : Stmt) (t : TS) (g : MS) : Prop where
  ps : PS X st t
  ok : TokS X.K W t g
structure IsB (X : Cx) (W : WX) (st : List Stmt) (t : TS) (g : MS) : Prop where
  ps : PSs X st t
  ok : TokS X.K W t g
section
variable {X : Cx} {W : WX} {e e1 e2 e3 : Expr} {es : List Expr} {t t1 t2 t3 : TE} {ta : TA} {f f1 f2 f3 : ME XV} {fa : ME (List XV)} {pos : Pos} {tt tt1 tt2 : TT} {gt : ME Bool} {K : PySem.W.Frag} {fl : ME (List D)} {ts ts1 ts2 : TS} {g g1 g2 : MS} {st : Stmt} {sts : List Stmt} {F S S' : Hp} {r r' : List Addr} {z : Fl} {d : Ends}
theorem PostS.mono (e : Ex S S') (k : Rle r r') (h : PostS K W F S r z d) : PostS K W F S' r' z d := by
  cases z with
  | nx q => exact fun σ S2 H2 r2 e2 k2 E => h σ S2 H2 r2 (e.trans e2) (k.trans k2) E
  | bk q => exact fun σ S2 H2 r2 e2 k2 E => h σ S2 H2 r2 (e.trans e2) (k.trans k2) E
  | ct q => exact fun σ S2 H2 r2 e2 k2 E => h σ S2 H2 r2 (e.trans e2) (k.trans k2) E
  | rt x q => exact fun v σ S2 H2 r2 e2 k2 E rp => h v σ S2 H2 r2 (e.trans e2) (k.trans k2) E rp
  | ex c q => exact fun σ S2 H2 r2 e2 k2 E => h σ S2 H2 r2 (e.trans e2) (k.trans k2) E
def sNext : MS := fun q => some (.nx q)
def sSeq (g1 g2 : MS) : MS := fun q => match g1 q with
  | some (.nx q') => g2 q'
  | z => z
theorem is_bnil : IsB X W [] tNext sNext := ⟨pss_nil, fun F S H r σ q z E hz d P => by
  cases hz
  exact P σ S H r (Ex.refl _) (Rle.refl _) E⟩
theorem tokS_seq (h1 : TokS K W ts1 g1) (h2 : TokS K W ts2 g2) : TokS K W (tSeq ts1 ts2) (sSeq g1 g2) := by
  intro F S H r σ q z E hz d P
  unfold sSeq at hz
  cases e : g1 q with
  | none => rw [e] at hz; cases hz
  | some y =>
    rw [e] at hz
    cases y with
    | nx q1 => exact h1 F S H r σ q _ E e _ fun σ1 S1 H1 r1 e1 k1 E1 => h2 F S1 H1 r1 σ1 q1 z E1 hz d (P.mono e1 k1)
    | bk q1 => cases hz; exact h1 F S H r σ q _ E e _ P
    | ct q1 => cases hz; exact h1 F S H r σ q _ E e _ P
    | rt x q1 => cases hz; exact h1 F S H r σ q _ E e _ P
    | ex c q1 => cases hz; exact h1 F S H r σ q _ E e _ P
theorem is_bcons (h1 : IsS X W st ts1 g1) (h2 : IsB X W sts ts2 g2) : IsB X W (st :: sts) (tSeq ts1 ts2) (sSeq g1 g2) := ⟨pss_cons h1.ps h2.ps, tokS_seq h1.ok h2.ok⟩
theorem is_bone (h1 : IsS X W st ts1 g1) : IsB X W [st] ts1 g1 := ⟨pss_one h1.ps, h1.ok⟩
theorem is_pass : IsS X W (.Pass pos) tNext sNext := ⟨ps_pass, is_bnil (X := X) (W := W).ok⟩
theorem is_break : IsS X W (.Break pos) tBreak (fun q => some (.bk q)) := ⟨ps_break, fun F S H r σ q z E hz d P => by
  cases hz
  exact P σ S H r (Ex.refl _) (Rle.refl _) E⟩
theorem is_continue : IsS X W (.Continue pos) tCont (fun q => some (.ct q)) := ⟨ps_continue, fun F S H r σ q z E hz d P => by
  cases hz
  exact P σ S H r (Ex.refl _) (Rle.refl _) E⟩
/-- from an expression to a statement -/
def sOf {a : Type} (f : ME a) (k : a → Stt → Option Fl) : MS := fun q => match f q with
  | none => none
  | some (.error c, q') => some (.ex c q')
  | some (.ok x, q') => k x q'
theorem TokS.of {a u : Type} {rep : RP a u} {te : TX u} {f : ME a} {k : a → Stt → Option Fl} {t2 : u → TS} (h1 : Tok rep K W te f)
    (h2 : ∀ x v F S H r σ q z, Env K F S H r σ q → rep S r x v → k x q = some z → ∀ d, PostS K W F S r z d → t2 v d σ H) : TokS K W (fun d σ H => te σ H fun v H1 => t2 v d σ H1) (sOf f k) := by
  intro F S H r σ q z E hz d P
  unfold sOf at hz
  cases e : f q with
  | none => rw [e] at hz; cases hz
  | some z1 =>
    obtain ⟨x, q1⟩ := z1
    rw [e] at hz
    cases x with
    | error c =>
      cases hz
      exact h1 F S H r σ q _ E e _ fun S1 H1 r1 e1 k1 E1 => P σ S1 H1 r1 e1 k1 E1
    | ok x => exact h1 F S H r σ q _ E e _ fun v S1 H1 r1 e1 k1 E1 rp => h2 x v F S1 H1 r1 σ q1 z E1 rp hz d (P.mono e1 k1)
def sRet (f : ME XV) : MS := sOf f fun x q => some (.rt x q)
theorem is_ret (h : IsE X W e t f) : IsS X W (.Return (some e) pos) (tRet t) (sRet f) := by
  refine ⟨ps_ret h.pe, TokS.of (t2 := fun v d σ H => d.rt v H) h.ok fun x v F S H r σ q z E rx hz d P => ?_⟩
  cases hz
  exact P v σ S H r (Ex.refl _) (Rle.refl _) E rx
theorem is_retN : IsS X W (.Return none pos) tRetN (fun q => some (.rt (.d .non) q)) := ⟨ps_retN, fun F S H r σ q z E hz d P => by
  cases hz
  exact P .non σ S H r (Ex.refl _) (Rle.refl _) E (show Rep X.K S .non .non by rw [Rep])⟩
def sDrop (f : ME XV) : MS := sOf f fun _ q => some (.nx q)
theorem is_drop (h : IsE X W e t f) (hs : swapsWith e none pos.line X.env = pure false := by rfl) : IsS X W (.Expr e pos) (tDrop t) (sDrop f) := by
  refine ⟨ps_expr h.pe hs, TokS.of (t2 := fun v d σ H => d.nx σ H) h.ok fun x v F S H r σ q z E rx hz d P => ?_⟩
  cases hz
  exact P σ S H r (Ex.refl _) (Rle.refl _) E
def sIf (gt : ME Bool) (g1 g2 : MS) : MS := sOf gt fun b => if b then g1 else g2
theorem is_ifS {c : Expr} {a b : List Stmt} (hc : IsT X W c tt gt) (ha : IsB X W a ts1 g1) (hb : IsB X W b ts2 g2) : IsS X W (.If c a b pos) (tIfS tt ts1 ts2) (sIf gt g1 g2) := by
  refine ⟨ps_if hc.pt ha.ps hb.ps, TokS.of (t2 := fun c d σ H => if c = true then ts1 d σ H else ts2 d σ H) hc.ok fun x v F S H r σ q z E rx hz d P => ?_⟩
  have e : x = v := rx
  subst e
  cases x with
  | true => exact iteT (ha.ok F S H r σ q z E hz d P)
  | false => exact iteF (hb.ok F S H r σ q z E hz d P)
/-! ### targets -/
/-- the slots but those in js are as they were -/
def Agree (js : List Nat) (σ σ' : L2.St) : Prop := σ'.length = σ.length ∧ ∀ j, j ∉ js → σ'[j]? = σ[j]?
def TokG (K : PySem.W.Frag) (tg : TG) (js : List Nat) (as : XV → Stt → Option Stt) : Prop :=
  ∀ x v F S H r σ q q', Env K F S H r σ q → XRep K S r x v → as x q = some q' → ∀ Q : L2.St → Hp → Prop, (∀ σ', Env K F S H r σ' q' → Agree js σ σ' → Q σ' H) → tg v σ H Q
structure IsG (X : Cx) (e : Expr) (tg : TG) (js : List Nat) (as : XV → Stt → Option Stt) : Prop where
  pg : PG X e tg
  ok : TokG X.K tg js as
theorem agree_set {σ : L2.St} {i : Nat} {x : Option V} : Agree [i] σ (σ.set i x) := ⟨by simp, fun j h => List.getElem?_set_ne (by intro z; exact h (by simp [z]))⟩
theorem Agree.trans {a b : List Nat} {σ σ1 σ2 : L2.St} (h : Agree a σ σ1) (k : Agree b σ1 σ2) : Agree (a ++ b) σ σ2 :=
  ⟨k.1.trans h.1, fun j m => (k.2 j fun z => m (List.mem_append_right _ z)).trans (h.2 j fun z => m (List.mem_append_left _ z))⟩
def toSl : XV → Sl
  | .d d => .dat d
  | .h n => .hnd n
def gSet (i : Nat) : XV → Stt → Option Stt := fun x q => if i < q.sl.length then some { q with sl := q.sl.set i (toSl x) } else none
theorem tokG_name (i : Nat) : TokG K (gName i) [i] (gSet i) := by
  intro x v F S H r σ q q' E rx hz Q k
  obtain ⟨hi, e⟩ := ifs hz
  subst e
  refine k _ ?_ agree_set
  have E1 := E.putX i rx hi
  cases x <;> exact E1
theorem is_gname (i : Nat) {x : Str} (hN : X.N.Nodup) (hi : X.N[i]? = some x := by rfl) (hx : Loc X.env.scope x := by first | exact .inl rfl | exact .inr rfl) (hf : X.fn x = true ∨ X.env.scope.names.lookup x = some .local := by first | exact .inl rfl | exact .inr rfl | assumption) :
    IsG X (.Name x pos) (gName i) [i] (gSet i) := ⟨pg_name hN hi hx hf, tokG_name i⟩
/-- several targets -/
def TokGs (K : PySem.W.Frag) (tg : TGs) (js : List Nat) (as : List D → Stt → Option Stt) : Prop :=
  ∀ xs vs F S H r σ q q', Env K F S H r σ q → RepL K S xs vs → as xs q = some q' → ∀ Q : L2.St → Hp → Prop, (∀ σ', Env K F S H r σ' q' → Agree js σ σ' → Q σ' H) → tg vs σ H Q
structure IsGs (X : Cx) (es : List Expr) (tg : TGs) (js : List Nat) (as : List D → Stt → Option Stt) : Prop where
  pg : PGs X es tg
  ok : TokGs X.K tg js as
def gsNil : List D → Stt → Option Stt := fun xs q => match xs with
  | [] => some q
  | _ => none
def gsCons (a : XV → Stt → Option Stt) (b : List D → Stt → Option Stt) : List D → Stt → Option Stt := fun xs q => match xs with
  | [] => none
  | x :: xs => (a (.d x) q).bind (b xs)
theorem is_gsnil : IsGs X [] gNil [] gsNil := ⟨pgs_nil, fun xs vs F S H r σ q q' E rx hz Q k => by
  cases xs with
  | nil =>
    cases hz
    rw [RepL] at rx
    exact ⟨rx, k σ E ⟨rfl, fun _ _ => rfl⟩⟩
  | cons x xs => cases hz⟩
theorem is_gscons {tg : TG} {tgs : TGs} {j1 j2 : List Nat} {a : XV → Stt → Option Stt} {b : List D → Stt → Option Stt} (h1 : IsG X e tg j1 a) (h2 : IsGs X es tgs j2 b) (hs : (assignEach (e :: es) X.env).map (·.2) = assign e X.env :: (assignEach es X.env).map (·.2) := by rfl) : IsGs X (e :: es) (gCons tg tgs) (j1 ++ j2) (gsCons a b) := by
  refine ⟨pgs_cons h1.pg h2.pg hs, fun xs vs F S H r σ q q' E rx hz Q k => ?_⟩
  cases xs with
  | nil => cases hz
  | cons x xs =>
    have hz' : (a (.d x) q).bind (b xs) = some q' := hz
    rw [RepL] at rx
    obtain ⟨v, vs', rfl, r1, r2⟩ := rx
    cases e1 : a (.d x) q with
    | none => rw [e1] at hz'; cases hz'
    | some q1 =>
      rw [e1] at hz'
      refine ⟨v, vs', rfl, h1.ok (.d x) v F S H r σ q q1 E r1 e1 _ fun σ1 E1 a1 => ?_⟩
      exact h2.ok xs vs' F S H r σ1 q1 q' E1 r2 hz' Q fun σ2 E2 a2 => k σ2 E2 (a1.trans a2)
def gTupD (n : Nat) (b : List D → Stt → Option Stt) : XV → Stt → Option Stt := fun x q => match x with
  | .d (.tup ds) => if ds.length = n then b ds q else none
  | _ => none
theorem is_gtup {tgs : TGs} {k n : Nat} {js : List Nat} {b : List D → Stt → Option Stt} (h : IsGs X es tgs js b) (hc : X.calm = true := by rfl) (hn : (assignEach es X.env).length = n := by rfl) (hst : (assignEach es X.env).findIdx? (·.1) = none := by rfl) : IsG X (.Tuple es k pos) (gTup X.K n tgs) js (gTupD n b) := by
  refine ⟨pg_tup hc h.pg hn hst, fun x v F S H r σ q q' E rx hz Q k => ?_⟩
  cases x with
  | h n => cases hz
  | d x =>
    cases x with
    | tup ds =>
      have hz' : (if ds.length = n then b ds q else none) = some q' := hz
      have rx' : Rep X.K S (.tup ds) v := rx
      rw [Rep] at rx'
      obtain ⟨a, vs, rfl, h1, h2⟩ := rx'
      by_cases hl : ds.length = n
      · rw [if_pos hl] at hz'
        exact ⟨a, vs, rfl, SqT.of (E.sub _ _ h1), by rw [← h2.length]; exact hl, h.ok ds vs F S H r σ q q' E h2 hz' Q k⟩
      · rw [if_neg hl] at hz'
        cases hz'
    | _ => cases hz
/-! ### assignments -/
def sAsg (f : ME XV) (a : XV → Stt → Option Stt) : MS := sOf f fun x q => (a x q).map .nx
theorem tokS_asg {tg : TG} {js : List Nat} {a : XV → Stt → Option Stt} (h : Tok (RX K) K W t f) (hg : TokG K tg js a) : TokS K W (tAsg t tg) (sAsg f a) := by
  refine TokS.of (t2 := fun v d σ H => tg v σ H d.nx) h fun x v F S H r σ q z E rx hz d P => ?_
  cases e : a x q with
  | none => rw [e] at hz; cases hz
  | some q1 =>
    rw [e] at hz
    cases hz
    exact hg x v F S H r σ q q1 E rx e _ fun σ1 E1 _ => P σ1 S H r (Ex.refl _) (Rle.refl _) E1
theorem is_set (i : Nat) {x : Str} {pos' : Pos} (hN : X.N.Nodup) (he : IsE X W e t f) (hi : X.N[i]? = some x := by rfl) (hx : Loc X.env.scope x := by first | exact .inl rfl | exact .inr rfl) (hs : swapsWith e (some (.Name x pos')) pos.line X.env = pure false := by rfl) (hf : X.fn x = true ∨ X.env.scope.names.lookup x = some .local := by first | exact .inl rfl | exact .inr rfl | assumption) :
    IsS X W (.Assign [.Name x pos'] e pos) (tAsg t (gName i)) (sAsg f (gSet i)) := ⟨ps_set hN hi hx he.pe hs hf, tokS_asg he.ok (tokG_name i)⟩
theorem is_asg {tgt : Expr} {tg : TG} {js : List Nat} {a : XV → Stt → Option Stt} (he : IsE X W e t f) (hg : IsG X tgt tg js a) (hs : swapsWithSole [tgt] e pos.line X.env = pure false := by rfl) (hw : swappedStores [tgt] e X.env = pure none := by rfl)
    (h1 : (assignEach [tgt] X.env).map (·.2) = [assign tgt X.env] := by rfl) : IsS X W (.Assign [tgt] e pos) (tAsg t tg) (sAsg f a) := ⟨ps_asg he.pe hg.pg hs hw h1, tokS_asg he.ok hg.ok⟩
/-- name = a fresh list, the name's own from then on -/
def sSetL (fl : ME (List D)) (i : Nat) : MS := sOf fl fun ds q => if i < q.sl.length then some (.nx { q with sl := q.sl.set i (.ol ds) }) else none
theorem tokS_setL (i : Nat) (h : TokL K W t fl) : TokS K W (tAsg t (gName i)) (sSetL fl i) := by
  intro F S H r σ q z E hz d P
  unfold sSetL sOf at hz
  cases e : fl q with
  | none => rw [e] at hz; cases hz
  | some z1 =>
    obtain ⟨x, q1⟩ := z1
    rw [e] at hz
    cases x with
    | error c =>
      cases hz
      exact h F S H r σ q _ E e _ fun S1 H1 r1 e1 k1 E1 => P σ S1 H1 r1 e1 k1 E1
    | ok ds =>
      obtain ⟨hi, e2⟩ := ifs hz
      subst e2
      refine h F S H r σ q _ E e _ fun p vs S1 H1 r1 e1 k1 hp E1 rp => ?_
      exact P _ S1 H1 r1 e1 k1 (E1.own hp i (.ol ds) (fun ow hw hH => ⟨p, vs, rfl, hw, hH, rp⟩) hi)
theorem is_setL (i : Nat) {x : Str} {pos' : Pos} (hN : X.N.Nodup) (he : IsL X W e t fl) (hi : X.N[i]? = some x := by rfl) (hx : Loc X.env.scope x := by first | exact .inl rfl | exact .inr rfl) (hs : swapsWith e (some (.Name x pos')) pos.line X.env = pure false := by rfl) (hf : X.fn x = true ∨ X.env.scope.names.lookup x = some .local := by first | exact .inl rfl | exact .inr rfl | assumption) :
    IsS X W (.Assign [.Name x pos'] e pos) (tAsg t (gName i)) (sSetL fl i) := ⟨ps_set hN hi hx he.pe hs hf, tokS_setL i he.ok⟩
/-- name = {} -/
def sNewK (i : Nat) : MS := fun q => if i < q.sl.length then some (.nx { q with sl := q.sl.set i (.od [] []) }) else none
theorem is_newK (i : Nat) {x : Str} {pos' pos2 : Pos} (hN : X.N.Nodup) (hi : X.N[i]? = some x := by rfl) (hx : Loc X.env.scope x := by first | exact .inl rfl | exact .inr rfl) (hs : swapsWith (.Dict [] [] pos2) (some (.Name x pos')) pos.line X.env = pure false := by rfl) (hf : X.fn x = true ∨ X.env.scope.names.lookup x = some .local := by first | exact .inl rfl | exact .inr rfl | assumption) :
    IsS X W (.Assign [.Name x pos'] (.Dict [] [] pos2) pos) (tAsg tDNewK (gName i)) (sNewK i) := by
  refine ⟨ps_set hN hi hx pe_dnewK hs hf, fun F S H r σ q z E hz d P => ?_⟩
  obtain ⟨hl, e2⟩ := ifs hz
  subst e2
  intro p hp
  exact P _ S _ r (Ex.refl _) (Rle.refl _) ((E.add hp (.dK [])).own (E.newF hp) i (.od [] []) (fun ow hw hH => ⟨p, [], rfl, hw, hH, rfl, RepL.nil⟩) hl)
def sNewT (i : Nat) : MS := fun q => if i < q.sl.length then some (.nx { q with sl := q.sl.set i (.ot [] []) }) else none
theorem is_newT (i : Nat) {x : Str} {pos' pos2 : Pos} (hN : X.N.Nodup) (hi : X.N[i]? = some x := by rfl) (hx : Loc X.env.scope x := by first | exact .inl rfl | exact .inr rfl) (hs : swapsWith (.Dict [] [] pos2) (some (.Name x pos')) pos.line X.env = pure false := by rfl) (hf : X.fn x = true ∨ X.env.scope.names.lookup x = some .local := by first | exact .inl rfl | exact .inr rfl | assumption) :
    IsS X W (.Assign [.Name x pos'] (.Dict [] [] pos2) pos) (tAsg tDNewT (gName i)) (sNewT i) := by
  refine ⟨ps_set hN hi hx pe_dnewT hs hf, fun F S H r σ q z E hz d P => ?_⟩
  obtain ⟨hl, e2⟩ := ifs hz
  subst e2
  intro p hp
  exact P _ S _ r (Ex.refl _) (Rle.refl _) ((E.add hp (.dT [])).own (E.newF hp) i (.ot [] []) (fun ow hw hH => ⟨p, [], rfl, hw, hH, rfl, RepL.nil⟩) hl)
end
end Den

namespace Den
open PySem PySem.Spec PyProof.Rows L2
open Evl (Ex)
/-! ### what is walked -/
structure Wlk (K : PySem.W.Frag) (S0 : Hp) (J : It) (ds : List D) : Prop where
  go : ∀ F S H r σ q i d, Ex S0 S → Env K F S H r σ q → ds[i]? = some d → J.go i H ∧ ∀ x H', J.yld i H x H' → ∃ S', Ex S S' ∧ Env K F S' H' r σ q ∧ Rep K S' d x
  stop : ∀ F S H r σ q i, Ex S0 S → Env K F S H r σ q → ds.length ≤ i → J.stop i H
theorem Wlk.mono {K : PySem.W.Frag} {S0 S1 : Hp} {J : It} {ds : List D} (e : Ex S0 S1) (w : Wlk K S0 J ds) : Wlk K S1 J ds :=
  ⟨fun F S H r σ q i d e1 => w.go F S H r σ q i d (e.trans e1), fun F S H r σ q i e1 => w.stop F S H r σ q i (e.trans e1)⟩
abbrev RI (K : PySem.W.Frag) : RP (List D) It := fun S _ ds J => Wlk K S J ds
theorem monoI {K : PySem.W.Frag} : Mono (RI K) := fun _ _ _ _ _ _ e _ h => h.mono e
structure IsI (X : Cx) (W : WX) (tg e : Expr) (wi : TI) (fi : ME (List D)) : Prop where
  pi : PI X tg e wi
  ok : Tok (RI X.K) X.K W wi fi
section
variable {X : Cx} {W : WX} {e e1 e2 e3 tg : Expr} {es : List Expr} {t t1 t2 t3 : TE} {ta : TA} {f f1 f2 f3 : ME XV} {fa : ME (List XV)} {pos p : Pos} {tt tt1 tt2 : TT} {gt : ME Bool} {K : PySem.W.Frag} {fl : ME (List D)} {ts ts1 ts2 : TS} {g g1 g2 : MS} {st : Stmt} {sts : List Stmt}
theorem wlk_list {S : Hp} {a : Addr} {vs : List V} {ds : List D} (h : SqL K S a vs) (rp : RepL K S ds vs) : Wlk K S (Itl K a) ds := by
  refine ⟨fun F S2 H r σ q i d e E hd => ?_, fun F S2 H r σ q i e E hi => ?_⟩
  · have h2 : SqL K H a vs := Evl.ex_l E.sub (Evl.ex_l e h)
    obtain ⟨v, hv, rv⟩ := rp.get hd
    refine ⟨⟨vs, v, h2, hv⟩, fun x H' y => ?_⟩
    obtain ⟨e1, y⟩ := y
    subst e1
    have ex : x = v := Option.some.inj ((y vs h2).symm.trans hv)
    subst ex
    exact ⟨S2, Ex.refl _, E, Rep.mono e _ _ rv⟩
  · exact ⟨vs, Evl.ex_l E.sub (Evl.ex_l e h), by rw [← rp.length]; exact hi⟩
theorem wlk_tup {S : Hp} {a : Addr} {vs : List V} {ds : List D} (h : SqT K S a vs) (rp : RepL K S ds vs) : Wlk K S (Itt K a) ds := by
  refine ⟨fun F S2 H r σ q i d e E hd => ?_, fun F S2 H r σ q i e E hi => ?_⟩
  · have h2 : SqT K H a vs := Evl.ex_t E.sub (Evl.ex_t e h)
    obtain ⟨v, hv, rv⟩ := rp.get hd
    refine ⟨⟨vs, v, h2, hv⟩, fun x H' y => ?_⟩
    obtain ⟨e1, y⟩ := y
    subst e1
    have ex : x = v := Option.some.inj ((y vs h2).symm.trans hv)
    subst ex
    exact ⟨S2, Ex.refl _, E, Rep.mono e _ _ rv⟩
  · exact ⟨vs, Evl.ex_t E.sub (Evl.ex_t e h), by rw [← rp.length]; exact hi⟩
def iota (lo : Int) : Nat → List D
  | 0 => []
  | n + 1 => .int lo :: iota (lo + 1) n
theorem iota_len : ∀ (n : Nat) (lo : Int), (iota lo n).length = n
  | 0, _ => rfl
  | n + 1, lo => by rw [iota, List.length_cons, iota_len n]
theorem iota_get : ∀ (n : Nat) (lo : Int) (i : Nat) (d : D), (iota lo n)[i]? = some d → d = .int (lo + i) ∧ i < n
  | 0, _, i, d, h => by simp [iota] at h
  | n + 1, lo, 0, d, h => by
    have e : D.int lo = d := by simpa [iota] using h
    exact ⟨by rw [← e]; simp, Nat.succ_pos _⟩
  | n + 1, lo, i + 1, d, h => by
    have h' : (iota (lo + 1) n)[i]? = some d := by simpa [iota] using h
    obtain ⟨h1, h2⟩ := iota_get n (lo + 1) i d h'
    refine ⟨?_, by omega⟩
    rw [h1]
    congr 1
    omega
theorem wlk_range {S : Hp} {lo : Int} {n : Nat} : Wlk K S (Itr lo n) (iota lo n) := by
  refine ⟨fun F S2 H r σ q i d e E hd => ?_, fun F S2 H r σ q i e E hi => ?_⟩
  · obtain ⟨h1, h2⟩ := iota_get n lo i d hd
    refine ⟨h2, fun x H' y => ?_⟩
    obtain ⟨e1, y⟩ := y
    subst e1
    subst h1
    refine ⟨S2, Ex.refl _, E, ?_⟩
    rw [Rep]
    exact y
  · rw [iota_len] at hi
    exact hi
/-- a list or a tuple -/
def iSeq (K : PySem.W.Frag) (tl : TE) : TI := fun σ H R => tl σ H fun x H1 => ∃ a, x = .ref a ∧ ((∃ xs, SqL K H1 a xs) ∧ R (Itl K a) H1 ∨ (∃ xs, SqT K H1 a xs) ∧ R (Itt K a) H1)
theorem pi_seq {l : Expr} {tl : TE} (hl : PE X l tl) : PI X tg l (iSeq X.K tl) := by
  refine ⟨fun pins s σ H R I h => ?_⟩
  refine thn (hl.run pins s σ H _ I h) fun v s1 ⟨x, H1, I1, r1, q1⟩ => ?_
  obtain ⟨a, e, q⟩ := q1
  subst e
  cases r1
  rcases q with ⟨⟨xs, hq⟩, q⟩ | ⟨⟨xs, hq⟩, q⟩
  · obtain ⟨its, rv, p, hz⟩ := I1.list hq
    refine wpAny_pyIter_list p.isList ?_
    refine ⟨s1.heap.objs.size, [s1.heap.objs.size], _, _, H1, rfl, I1.kept (t' := s1.toks) fun b o e => Heap.get?_push_of_some _ e, turn_list a _, ⟨_, Heap.get?_push_size _ rfl, rfl, rfl⟩, fun b hb => ?_, q⟩
    have e : b = s1.heap.objs.size := by simpa using hb
    subst e
    exact I1.fpOk (Nat.le_refl _) (I1.hok.fresh (Nat.le_refl _))
  · obtain ⟨its, rv, p, hz⟩ := I1.tuple hq
    refine wpAny_pyIter_tuple (show s1.heap.IsTuple a its.toArray from p) ?_
    refine ⟨s1.heap.objs.size, [s1.heap.objs.size], _, _, H1, rfl, I1.kept (t' := s1.toks) fun b o e => Heap.get?_push_of_some _ e, turn_tuple a _, ⟨_, Heap.get?_push_size _ rfl, rfl, rfl⟩, fun b hb => ?_, q⟩
    have e : b = s1.heap.objs.size := by simpa using hb
    subst e
    exact I1.fpOk (Nat.le_refl _) (I1.hok.fresh (Nat.le_refl _))
def seqD : XV → Option (List D)
  | .d (.lst ds) => some ds
  | .d (.seq ds) => some ds
  | .d (.tup ds) => some ds
  | _ => none
def iOf (f : ME XV) : ME (List D) := bnd f fun x => lft (seqD x)
theorem tok_iseq (h : Tok (RX K) K W t f) : Tok (RI K) K W (iSeq K t) (iOf f) := by
  refine Tok.bind (t2 := fun x σ H R => ∃ a, x = .ref a ∧ ((∃ xs, SqL K H a xs) ∧ R (Itl K a) H ∨ (∃ xs, SqT K H a xs) ∧ R (Itt K a) H)) h fun x v F S H r σ q z E rx hz Q P => ?_
  cases x with
  | h n => cases hz
  | d x =>
    have rx' : Rep K S x v := rx
    cases x with
    | lst ds =>
      cases hz
      rw [Rep] at rx'
      obtain ⟨a, vs, rfl, h1, h2⟩ := rx'
      exact ⟨a, rfl, .inl ⟨⟨vs, SqL.of (E.sub _ _ h1)⟩, P _ S H r (Ex.refl _) (Rle.refl _) E (wlk_list (SqL.of h1) h2)⟩⟩
    | seq ds =>
      cases hz
      rw [Rep] at rx'
      obtain ⟨a, vs, rfl, h1, h2⟩ := rx'
      exact ⟨a, rfl, .inl ⟨⟨vs, Evl.ex_l E.sub h1⟩, P _ S H r (Ex.refl _) (Rle.refl _) E (wlk_list h1 h2)⟩⟩
    | tup ds =>
      cases hz
      rw [Rep] at rx'
      obtain ⟨a, vs, rfl, h1, h2⟩ := rx'
      exact ⟨a, rfl, .inr ⟨⟨vs, SqT.of (E.sub _ _ h1)⟩, P _ S H r (Ex.refl _) (Rle.refl _) E (wlk_tup (SqT.of h1) h2)⟩⟩
    | _ => cases hz
theorem is_iseq (h : IsE X W e t f) : IsI X W tg e (iSeq X.K t) (iOf f) := ⟨pi_seq h.pe, tok_iseq h.ok⟩
def rng1 : List XV → Option (List D)
  | [.d (.int j)] => if -(2 ^ 62) ≤ j ∧ j < 2 ^ 62 then some (iota 0 j.toNat) else none
  | _ => none
def rng2 : List XV → Option (List D)
  | [.d (.int i), .d (.int j)] => if -(2 ^ 62) ≤ i ∧ i < 2 ^ 62 ∧ -(2 ^ 62) ≤ j ∧ j < 2 ^ 62 then some (iota i (j - i).toNat) else none
  | _ => none
theorem xr_int {S : Hp} {r : List Addr} {i : Int} {v : V} (h : XRep K S r (.d (.int i)) v) : v = .int i := by
  have h' : Rep K S (.int i) v := h
  rw [Rep] at h'
  exact h'
theorem is_rng1 (ha : IsA X W [e] ta fa) (hg : Gl X "range") (hm : X.mg "range" = none) (hs : starEach [e] X.env = [(false, eval e X.env)] := by rfl) :
    IsI X W tg (.Call (.Name "range" p) [e] [] pos) (iRng1 ta) (bnd fa fun xs => lft (rng1 xs)) := by
  refine ⟨pi_range1 hg hm ha.pa hs, ?_⟩
  refine Tok.bind (t2 := fun vs σ H R => ∃ j : Int, vs = [V.int j] ∧ -(2 ^ 62) ≤ j ∧ j < 2 ^ 62 ∧ R (Itr 0 j.toNat) H) ha.ok fun x v F S H r σ q z E rx hz Q P => ?_
  unfold lft rng1 at hz
  split at hz
  · cases hz
  · rename_i y hy
    split at hy
    · rename_i j
      obtain ⟨hj, e1⟩ := ifs hy
      subst e1
      cases hz
      obtain ⟨v1, t1, rfl, k1, k2⟩ := rx
      have e2 : t1 = [] := k2
      subst e2
      rw [xr_int k1]
      exact ⟨j, rfl, hj.1, hj.2, P _ S H r (Ex.refl _) (Rle.refl _) E wlk_range⟩
    · cases hy
theorem is_rng2 (ha : IsA X W [e, e1] ta fa) (hg : Gl X "range") (hm : X.mg "range" = none) (hs : starEach [e, e1] X.env = [(false, eval e X.env), (false, eval e1 X.env)] := by rfl) (hs2 : starEach [e1] X.env = [(false, eval e1 X.env)] := by rfl) :
    IsI X W tg (.Call (.Name "range" p) [e, e1] [] pos) (iRng2 ta) (bnd fa fun xs => lft (rng2 xs)) := by
  refine ⟨pi_range2 hg hm ha.pa hs hs2, ?_⟩
  refine Tok.bind (t2 := fun vs σ H R => ∃ i j : Int, vs = [V.int i, V.int j] ∧ (-(2 ^ 62) ≤ i ∧ i < 2 ^ 62 ∧ -(2 ^ 62) ≤ j ∧ j < 2 ^ 62) ∧ R (Itr i (j - i).toNat) H) ha.ok fun x v F S H r σ q z E rx hz Q P => ?_
  unfold lft rng2 at hz
  split at hz
  · cases hz
  · rename_i y hy
    split at hy
    · rename_i i j
      obtain ⟨hj, e1⟩ := ifs hy
      subst e1
      cases hz
      obtain ⟨v1, t1, rfl, k1, v2, t2, rfl, k2, k3⟩ := rx
      have e2 : t2 = [] := k3
      subst e2
      rw [xr_int k1, xr_int k2]
      exact ⟨i, j, rfl, hj, P _ S H r (Ex.refl _) (Rle.refl _) E wlk_range⟩
    · cases hy
/-! ### for -/
def loopD (a : XV → Stt → Option Stt) (g : MS) : List D → MS
  | [] => sNext
  | d :: ds => fun q => match a (.d d) q with
    | none => none
    | some q1 => match g q1 with
      | some (.nx q2) => loopD a g ds q2
      | some (.ct q2) => loopD a g ds q2
      | some (.bk q2) => some (.nx q2)
      | z => z
def sFor (fi : ME (List D)) (a : XV → Stt → Option Stt) (g : MS) : MS := sOf fi fun ds => loopD a g ds
theorem tokS_for {wi : TI} {tg : TG} {js : List Nat} {a : XV → Stt → Option Stt} {fi : ME (List D)} (hi : Tok (RI K) K W wi fi) (hg : TokG K tg js a) (hb : TokS K W ts g) : TokS K W (tFor wi tg ts) (sFor fi a g) := by
  refine TokS.of (t2 := fun (J : It) (D : Ends) (σ : L2.St) (H1 : Hp) => ∃ W : Nat → Nat → L2.St → Hp → Prop, (∃ m, W 0 m σ H1) ∧ ∀ i m σ H, W i m σ H →
    (J.stop i H ∧ D.nx σ H) ∨ (J.go i H ∧ ∃ N : L2.St → Hp → Prop, (∀ σ' H', N σ' H' → ∃ m', m' < m ∧ W (i + 1) m' σ' H') ∧ ∀ x H', J.yld i H x H' → tg x σ H' fun σ2 H2 => ts { D with nx := N, ct := N, bk := D.nx } σ2 H2)) hi fun ds J F S H r σ q z E w hz d P => ?_
  refine ⟨fun i m σ' H' => m = ds.length - i ∧ i ≤ ds.length ∧ ∃ S' r' q', Ex S S' ∧ Rle r r' ∧ Env K F S' H' r' σ' q' ∧ loopD a g (ds.drop i) q' = some z, ⟨_, rfl, Nat.zero_le _, S, r, q, Ex.refl _, Rle.refl _, E, hz⟩, ?_⟩
  rintro i m σ1 H1 ⟨rfl, hi, S1, r1, q1, e1, k1, E1, hl⟩
  by_cases hlt : i < ds.length
  · have hd : ds[i]? = some ds[i] := List.getElem?_eq_getElem hlt
    have hdrop : ds.drop i = ds[i] :: ds.drop (i + 1) := List.drop_eq_getElem_cons hlt
    rw [hdrop] at hl
    obtain ⟨go, yl⟩ := w.go F S1 H1 r1 σ1 q1 i _ e1 E1 hd
    refine .inr ⟨go, fun σ' H' => i + 1 ≤ ds.length ∧ ∃ S' r' q', Ex S S' ∧ Rle r r' ∧ Env K F S' H' r' σ' q' ∧ loopD a g (ds.drop (i + 1)) q' = some z, fun σ' H' ⟨h1, h2⟩ => ⟨_, by omega, rfl, h1, h2⟩, fun x H' y => ?_⟩
    obtain ⟨S2, e2, E2, rx⟩ := yl x H' y
    have hl' : (match a (.d ds[i]) q1 with
      | none => none
      | some q1 => match g q1 with
        | some (.nx q2) => loopD a g (ds.drop (i + 1)) q2
        | some (.ct q2) => loopD a g (ds.drop (i + 1)) q2
        | some (.bk q2) => some (.nx q2)
        | z => z) = some z := hl
    cases ea : a (.d ds[i]) q1 with
    | none => rw [ea] at hl'; cases hl'
    | some q2 =>
      rw [ea] at hl'
      refine hg (.d ds[i]) x F S2 H' r1 σ1 q1 q2 E2 rx ea _ fun σ2 E3 _ => ?_
      have e3 : Ex S S2 := e1.trans e2
      cases eg : g q2 with
      | none => simp only [eg] at hl'; cases hl'
      | some y2 =>
        simp only [eg] at hl'
        have hi1 : i + 1 ≤ ds.length := hlt
        cases y2 with
        | nx q3 => exact hb F S2 H' r1 σ2 q2 _ E3 eg _ fun σ4 S4 H4 r4 e4 k4 E4 => ⟨hi1, S4, r4, q3, e3.trans e4, k1.trans k4, E4, hl'⟩
        | ct q3 => exact hb F S2 H' r1 σ2 q2 _ E3 eg _ fun σ4 S4 H4 r4 e4 k4 E4 => ⟨hi1, S4, r4, q3, e3.trans e4, k1.trans k4, E4, hl'⟩
        | bk q3 =>
          cases hl'
          exact hb F S2 H' r1 σ2 q2 _ E3 eg _ fun σ4 S4 H4 r4 e4 k4 E4 => P σ4 S4 H4 r4 (e3.trans e4) (k1.trans k4) E4
        | rt x3 q3 =>
          cases hl'
          exact hb F S2 H' r1 σ2 q2 _ E3 eg _ fun v4 σ4 S4 H4 r4 e4 k4 E4 rx4 => P v4 σ4 S4 H4 r4 (e3.trans e4) (k1.trans k4) E4 rx4
        | ex c q3 =>
          cases hl'
          exact hb F S2 H' r1 σ2 q2 _ E3 eg _ fun σ4 S4 H4 r4 e4 k4 E4 => P σ4 S4 H4 r4 (e3.trans e4) (k1.trans k4) E4
  · have ei : i = ds.length := by omega
    subst ei
    rw [List.drop_length] at hl
    have ez : sNext q1 = some z := hl
    cases ez
    exact .inl ⟨w.stop F S1 H1 r1 σ1 q1 _ e1 E1 (Nat.le_refl _), P σ1 S1 H1 r1 e1 k1 E1⟩
theorem is_for {wi : TI} {tgt iter : Expr} {tg : TG} {js : List Nat} {a : XV → Stt → Option Stt} {fi : ME (List D)} {body : List Stmt} (hp : PassesOwn (model X.prog X.w) X.A X.env X.xe) (hi : IsI X W tgt iter wi fi) (hg : IsG X tgt tg js a) (hb : IsB X W body ts g) (hc : X.calm = true := by rfl)
    (hs : ∀ x, foldedSetIterable iter X.env x = pure x := by intro _; rfl) : IsS X W (.For tgt iter body [] pos) (tFor wi tg ts) (sFor fi a g) := ⟨ps_for hp hc hi.pi hg.pg hb.ps hs, tokS_for hi.ok hg.ok hb.ok⟩
/-! ### comprehensions -/
def wipeQ (q : Stt) : List Nat → Stt
  | [] => q
  | v :: vs => { wipeQ q vs with sl := (wipeQ q vs).sl.set v .un }
theorem set_big {a : Type} {l : List a} {i : Nat} {x : a} (h : l.length ≤ i) : l.set i x = l := by
  apply List.ext_getElem?
  intro j
  by_cases e : i = j
  · subst e
    rw [List.getElem?_eq_none (by simpa using h), List.getElem?_eq_none h]
  · rw [List.getElem?_set_ne e]
theorem Env.un {F S H : Hp} {r : List Addr} {σ : L2.St} {q : Stt} (E : Env K F S H r σ q) (i : Nat) (x : Option V) : Env K F S H r (σ.set i x) { q with sl := q.sl.set i .un } := by
  by_cases h : i < q.sl.length
  · exact E.put i .un x (fun _ => trivial) h
  · have hl : σ.length = q.sl.length := let ⟨_, e⟩ := E; e.len
    rw [set_big (by omega : σ.length ≤ i), set_big (by omega : q.sl.length ≤ i)]
    exact E
theorem Env.wiped {F S H : Hp} {r : List Addr} {σ : L2.St} {q : Stt} (E : Env K F S H r σ q) : ∀ vs : List Nat, Env K F S H r (wipe σ vs) (wipeQ q vs)
  | [] => E
  | v :: vs => (E.wiped vs).un v none
theorem agree_wipe {σ σ' : L2.St} {js : List Nat} (h : Agree js σ σ') : ∀ {vs : List Nat}, (∀ j ∈ js, j ∈ vs) → wipe σ' vs = wipe σ vs := by
  intro vs hjs
  have key : ∀ (τ : L2.St) (us : List Nat) (j : Nat), (wipe τ us)[j]? = if j ∈ us ∧ j < τ.length then some none else τ[j]? := by
    intro τ us
    induction us with
    | nil => intro j; simp [wipe]
    | cons u us ih =>
      intro j
      unfold wipe
      by_cases e : u = j
      · subst e
        by_cases hl : u < τ.length
        · rw [List.getElem?_set_self (by rw [wipe_length]; exact hl), if_pos ⟨by simp, hl⟩]
        · rw [List.getElem?_eq_none (by rw [List.length_set, wipe_length]; omega), if_neg (fun z => hl z.2), List.getElem?_eq_none (by omega)]
      · rw [List.getElem?_set_ne e, ih]
        have : (j ∈ u :: us) ↔ j ∈ us := by
          rw [List.mem_cons]
          constructor
          · rintro (z | z)
            · exact absurd z.symm e
            · exact z
          · exact .inr
        simp only [this]
  apply List.ext_getElem?
  intro j
  rw [key, key, h.1]
  by_cases m : j ∈ js
  · by_cases hl : j < σ.length
    · rw [if_pos ⟨hjs j m, hl⟩, if_pos ⟨hjs j m, hl⟩]
    · rw [if_neg (fun z => hl z.2), if_neg (fun z => hl z.2), List.getElem?_eq_none (by rw [h.1]; omega), List.getElem?_eq_none (by omega)]
  · rw [h.2 j m]
def lcLoop (vs : List Nat) (a : XV → Stt → Option Stt) (gt : ME Bool) (fe : ME XV) : List D → List D → Stt → Option (List D × Stt)
  | [], acc, q => some (acc, q)
  | d :: ds, acc, q => match a (.d d) q with
    | none => none
    | some q1 => match gt q1 with
      | some (.ok true, q2) => match fe q2 with
        | some (.ok (.d x), q3) => if acc.length < big then lcLoop vs a gt fe ds (acc ++ [x]) (wipeQ q3 vs) else none
        | _ => none
      | some (.ok false, q2) => lcLoop vs a gt fe ds acc (wipeQ q2 vs)
      | _ => none
/-- behind a comprehension: its own names are what they were (where they held data) -/
def keepS : Option Sl → Sl
  | some (.dat d) => .dat d
  | some (.hnd n) => .hnd n
  | _ => .un
def backQ (q0 q : Stt) (vs : List Nat) : Stt := { q with sl := q.sl.mapIdx fun i s => if i ∈ vs then keepS q0.sl[i]? else s }
def lLc (vs : List Nat) (fi : ME (List D)) (a : XV → Stt → Option Stt) (gt : ME Bool) (fe : ME XV) : ME (List D) := bnd fi fun ds q => match lcLoop vs a gt fe ds [] (wipeQ q vs) with
  | none => none
  | some (acc, q') => some (.ok acc, backQ q q' vs)
theorem wipe_get {σ : L2.St} {us : List Nat} {j : Nat} (h : j ∉ us) : (wipe σ us)[j]? = σ[j]? := by
  induction us with
  | nil => rfl
  | cons u us ih =>
    unfold wipe
    have hne : u ≠ j := fun z => h (by simp [z])
    rw [List.getElem?_set_ne hne]
    exact ih fun z => h (List.mem_cons_of_mem _ z)
theorem Env.back {F F' S S' H H' : Hp} {r r' : List Addr} {σ : L2.St} {q0 q : Stt} {vs : List Nat} (ex : Ex S S') (k : Rle r r') (E0 : Env K F S H r σ q0) (E : Env K F' S' H' r' (wipe σ vs) q) : Env K F' S' H' r' σ (backQ q0 q vs) := by
  obtain ⟨ow0, e0⟩ := E0
  obtain ⟨ow, e⟩ := E
  have hl : σ.length = q.sl.length := by rw [← e.len, wipe_length]
  refine ⟨ow, e.sub, e.fr, e.ows, by simp [backQ, hl], fun i s hs => ?_, e.rlen, e.wob, e.nt⟩
  have hs' : (q.sl.mapIdx fun i s => if i ∈ vs then keepS q0.sl[i]? else s)[i]? = some s := hs
  rw [List.getElem?_mapIdx] at hs'
  cases eq : q.sl[i]? with
  | none => rw [eq] at hs'; cases hs'
  | some s0 =>
    rw [eq] at hs'
    have hs2 : (if i ∈ vs then keepS q0.sl[i]? else s0) = s := Option.some.inj hs'
    by_cases hm : i ∈ vs
    · rw [if_pos hm] at hs2
      cases e1 : q0.sl[i]? with
      | none =>
        rw [e1] at hs2
        subst hs2
        trivial
      | some s1 =>
        rw [e1] at hs2
        have h0 := e0.slot i s1 e1
        cases s1 with
        | dat d =>
          subst hs2
          obtain ⟨w, h1, h2⟩ := h0
          exact ⟨w, h1, Rep.mono ex _ _ h2⟩
        | hnd n =>
          subst hs2
          obtain ⟨a, h1, h2⟩ := h0
          exact ⟨a, k _ _ h1, h2⟩
        | _ => subst hs2; trivial
    · rw [if_neg hm] at hs2
      subst hs2
      have h1 := e.slot i s0 eq
      rw [wipe_get hm] at h1
      exact h1
abbrev W0 : WX := fun _ _ _ _ => False
theorem tokL_lc {wi : TI} {tg : TG} {js : List Nat} {a : XV → Stt → Option Stt} {fi : ME (List D)} {vs : List Nat} {te : TE} {fe : ME XV} (hi : Tok (RI K) K W wi fi) (hg : TokG K tg js a) (ht : Tok RB K W0 tt gt) (he : Tok (RX K) K W0 te fe) (hjs : ∀ j ∈ js, j ∈ vs) :
    TokL K W (tLc wi tg tt te vs) (lLc vs fi a gt fe) := by
  refine TokL.bind (t2 := fun (J : It) (σ : L2.St) (H1 : Hp) (Q : VK) => ∀ D, H1 D = none → ∃ W : Nat → Nat → Hp → Prop, (∃ m, W 0 m (upd H1 D (.lst []))) ∧ ∀ i m H, W i m H →
    (J.stop i H ∧ Q (V.ref D) H) ∨ (J.go i H ∧ ∃ Nx : Hp → Prop, (∀ H', Nx H' → ∃ m', m' < m ∧ W (i + 1) m' H') ∧ ∀ x H', J.yld i H x H' → tg x (wipe σ vs) H' fun σ2 H2 => wipe σ2 vs = wipe σ vs ∧ tt σ2 H2 fun b H3 =>
      if b = true then te σ2 H3 fun y H4 => ∃ acc, H4 D = some (.lst acc) ∧ acc.length < sizeLine ∧ Nx (upd H4 D (.lst (acc ++ [y]))) else Nx H3)) hi fun ds J F S H r σ q z E w hz Q P => ?_
  have hz0 : (match lcLoop vs a gt fe ds [] (wipeQ q vs) with
    | none => none
    | some (acc, q') => some ((Except.ok acc : Except Value (List D)), backQ q q' vs)) = some z := hz
  cases el : lcLoop vs a gt fe ds [] (wipeQ q vs) with
  | none => rw [el] at hz0; cases hz0
  | some zz =>
    obtain ⟨accE, qE⟩ := zz
    rw [el] at hz0
    cases hz0
    intro p hp
    have hF := E.newF hp
    refine ⟨fun i m H' => m = ds.length - i ∧ i ≤ ds.length ∧ ∃ S' r' q' us acc, Ex S S' ∧ Rle r r' ∧ Env K (upd F p (.lst us)) S' H' r' (wipe σ vs) q' ∧ RepL K S' acc us ∧ lcLoop vs a gt fe (ds.drop i) acc q' = some (accE, qE),
      ⟨_, rfl, Nat.zero_le _, S, r, wipeQ q vs, [], [], Ex.refl _, Rle.refl _, (E.add hp _).wiped vs, RepL.nil, el⟩, ?_⟩
    rintro i m H1 ⟨rfl, hi', S1, r1, q1, us, acc, e1, k1, E1, ra, hl⟩
    by_cases hlt : i < ds.length
    · have hd : ds[i]? = some ds[i] := List.getElem?_eq_getElem hlt
      have hdrop : ds.drop i = ds[i] :: ds.drop (i + 1) := List.drop_eq_getElem_cons hlt
      rw [hdrop] at hl
      obtain ⟨go, yl⟩ := w.go _ S1 H1 r1 _ q1 i _ e1 E1 hd
      refine .inr ⟨go, fun H' => i + 1 ≤ ds.length ∧ ∃ S' r' q' us acc, Ex S S' ∧ Rle r r' ∧ Env K (upd F p (.lst us)) S' H' r' (wipe σ vs) q' ∧ RepL K S' acc us ∧ lcLoop vs a gt fe (ds.drop (i + 1)) acc q' = some (accE, qE), fun H' ⟨h1, h2⟩ => ⟨_, by omega, rfl, h1, h2⟩, fun x H' y => ?_⟩
      obtain ⟨S2, e2, E2, rx⟩ := yl x H' y
      unfold lcLoop at hl
      cases ea : a (.d ds[i]) q1 with
      | none => rw [ea] at hl; cases hl
      | some q2 =>
        rw [ea] at hl
        refine hg (.d ds[i]) x _ S2 H' r1 _ q1 q2 E2 rx ea _ fun σ2 E3 ag => ?_
        have hw : wipe σ2 vs = wipe σ vs := by
          rw [agree_wipe ag hjs]
          -- wiping twice
          apply List.ext_getElem?
          intro j
          by_cases hm : j ∈ vs
          · by_cases hl' : j < σ.length
            · have key : ∀ (τ : L2.St) (us : List Nat), j ∈ us → j < τ.length → (wipe τ us)[j]? = some none := by
                intro τ us
                induction us with
                | nil => intro z; cases z
                | cons u us ih2 =>
                  intro z hτ
                  unfold wipe
                  by_cases e : u = j
                  · subst e
                    rw [List.getElem?_set_self (by rw [wipe_length]; exact hτ)]
                  · rw [List.getElem?_set_ne e]
                    rcases List.mem_cons.mp z with z | z
                    · exact absurd z.symm e
                    · exact ih2 z hτ
              rw [key _ _ hm (by rw [wipe_length]; exact hl'), key _ _ hm hl']
            · rw [List.getElem?_eq_none (by rw [wipe_length, wipe_length]; omega), List.getElem?_eq_none (by rw [wipe_length]; omega)]
          · rw [wipe_get hm]
        refine ⟨hw, ?_⟩
        have hi1 : i + 1 ≤ ds.length := hlt
        cases eg : gt q2 with
        | none => simp only [eg] at hl; cases hl
        | some y2 =>
          obtain ⟨b, q3⟩ := y2
          simp only [eg] at hl
          cases b with
          | error c => cases hl
          | ok b =>
            refine ht _ S2 H' r1 σ2 q2 _ E3 eg _ fun b' S3 H3 r3 e3 k3 E4 hb => ?_
            have hb' : b = b' := hb
            subst hb'
            cases b with
            | false =>
              refine iteF ⟨hi1, S3, r3, wipeQ q3 vs, us, acc, (e1.trans e2).trans e3, k1.trans k3, ?_, RepL.mono (e2.trans e3) _ _ ra, hl⟩
              rw [← hw]
              exact E4.wiped vs
            | true =>
              refine iteT ?_
              cases ee : fe q3 with
              | none => simp only [ee] at hl; cases hl
              | some y3 =>
                obtain ⟨xe, q4⟩ := y3
                simp only [ee] at hl
                cases xe with
                | error c => cases hl
                | ok xe =>
                  cases xe with
                  | h n => cases hl
                  | d xd =>
                    refine he _ S3 H3 r3 σ2 q3 _ E4 ee _ fun v S4 H4 r4 e4 k4 E5 rv => ?_
                    have hacc : acc.length < big ∧ lcLoop vs a gt fe (ds.drop (i + 1)) (acc ++ [xd]) (wipeQ q4 vs) = some (accE, qE) := by
                      by_cases hb : acc.length < big
                      · simp only [if_pos hb] at hl
                        exact ⟨hb, hl⟩
                      · simp only [if_neg hb] at hl
                        cases hl
                    have ra4 := RepL.mono ((e2.trans e3).trans e4) _ _ ra
                    refine ⟨us, E5.fr upd_same, ?_, hi1, S4, r4, wipeQ q4 vs, us ++ [v], acc ++ [xd], ((e1.trans e2).trans e3).trans e4, (k1.trans k3).trans k4, ?_, ra4.append (RepL.one rv), hacc.2⟩
                    · rw [← ra4.length]
                      exact Nat.lt_of_lt_of_le hacc.1 (by decide)
                    · rw [← hw]
                      exact (E5.write _).wiped vs
    · have ei : i = ds.length := by omega
      subst ei
      rw [List.drop_length] at hl
      have ez : some (acc, q1) = some (accE, qE) := hl
      cases ez
      exact .inl ⟨w.stop _ S1 H1 r1 _ _ _ e1 E1 (Nat.le_refl _), P p us S1 H1 r1 e1 k1 hF (Env.back e1 k1 E E1) ra⟩
end
end Den

namespace Den
open PySem PySem.Spec PyProof.Rows L2
open Evl (Ex)
section
variable {K : PySem.W.Frag} {F S S' H H' : Hp} {r r' : List Addr} {σ σ' : L2.St} {q q' : Stt} {v w : V}
theorem rh_int {i : Int} (h : RepH K S H (.int i) v) : v = .int i := by
  have h' : Rep K S (.int i) v := h
  rw [Rep] at h'
  exact h'
theorem rh_bl {i : Bool} (h : RepH K S H (.bl i) v) : v = .bl i := by
  have h' : Rep K S (.bl i) v := h
  rw [Rep] at h'
  exact h'
theorem rh_str {i : Str} (h : RepH K S H (.str i) v) : v = .str i := by
  have h' : Rep K S (.str i) v := h
  rw [Rep] at h'
  exact h'
theorem rh_non (h : RepH K S H .non v) : v = .non := by
  have h' : Rep K S .non v := h
  rw [Rep] at h'
  exact h'
theorem rh_ty {n : String} (h : RepH K S H (.ty n) v) : v = .ty n := by
  have h' : Rep K S (.ty n) v := h
  rw [Rep] at h'
  exact h'
theorem rh_tup {ds : List D} (E : Ex S H) (h : RepH K S H (.tup ds) v) : ∃ a vs, v = .ref a ∧ SqT K H a vs ∧ S a = some (.tup vs) ∧ RepL K S ds vs := by
  have h' : Rep K S (.tup ds) v := h
  rw [Rep] at h'
  obtain ⟨a, vs, h1, h2, h3⟩ := h'
  exact ⟨a, vs, h1, SqT.of (E _ _ h2), h2, h3⟩
theorem rh_seq {ds : List D} (E : Ex S H) (h : RepH K S H (.seq ds) v) : ∃ a vs, v = .ref a ∧ SqL K H a vs ∧ RepL K S ds vs := by
  have h' : Rep K S (.seq ds) v := h
  rw [Rep] at h'
  obtain ⟨a, vs, h1, h2, h3⟩ := h'
  exact ⟨a, vs, h1, Evl.ex_l E h2, h3⟩
theorem rp_int {i : Int} : Rep K S (.int i) (.int i) := by rw [Rep]
theorem rp_bl {i : Bool} : Rep K S (.bl i) (.bl i) := by rw [Rep]
theorem rp_str {i : Str} : Rep K S (.str i) (.str i) := by rw [Rep]
theorem rp_non : Rep K S .non .non := by rw [Rep]
theorem rp_ty {n : String} : Rep K S (.ty n) (.ty n) := by rw [Rep]
/-- a new tuple -/
theorem new_tup {ds : List D} {vs : List V} {p : Addr} (E : Env K F S H r σ q) (hp : H p = none) (rp : RepL K S ds vs) :
    ∃ S', Ex S S' ∧ Env K F S' (upd H p (.tup vs)) r σ q ∧ Rep K S' (.tup ds) (.ref p) := by
  obtain ⟨E2, ex⟩ := E.newT hp vs
  refine ⟨_, ex, E2, ?_⟩
  rw [Rep]
  exact ⟨p, vs, rfl, upd_same, RepL.mono ex _ _ rp⟩
theorem new_lst {ds : List D} {vs : List V} {p : Addr} (E : Env K F S H r σ q) (hp : H p = none) (rp : RepL K S ds vs) :
    ∃ S', Ex S S' ∧ Env K F S' (upd H p (.lst vs)) r σ q ∧ Rep K S' (.lst ds) (.ref p) := by
  obtain ⟨E2, ex⟩ := (E.add hp (.lst vs)).settle (E.newF hp)
  refine ⟨_, ex, E2, ?_⟩
  rw [Rep]
  exact ⟨p, vs, rfl, upd_same, RepL.mono ex _ _ rp⟩
end
/-! ### arithmetic -/
def r2Or (r r' : R2) : R2 := fun x y H Q => r x y H Q ∨ r' x y H Q
def rAddI : R2 := rI0 fun i j => .int (i + j)
def rAddS : R2 := fun x y H Q => ∃ i j, x = .str i ∧ y = .str j ∧ i.length + j.length ≤ sizeLine ∧ Q (.str (i ++ j)) H
def rAddX (K : PySem.W.Frag) : R2 := r2Or rAddI (r2Or rAddS (r2Or rCat (rCatA K)))
theorem op_addX {X : Cx} : OpR X (binaryOp .Add) (rAddX X.K) := OpR.or op_add (OpR.or op_add_str (OpR.or op_cat op_catA))
def gAdd : D → D → Option D
  | .int i, .int j => some (.int (i + j))
  | .str i, .str j => if i.length + j.length ≤ big then some (.str (i ++ j)) else none
  | .lst xs, .lst ys => if xs.length + ys.length ≤ big then some (.lst (xs ++ ys)) else none
  | .tup xs, .tup ys => if xs.length + ys.length ≤ big then some (.tup (xs ++ ys)) else none
  | _, _ => none
theorem len0 {K : PySem.W.Frag} {S : Hp} {vs : List V} (h : RepL K S [] vs) : vs = [] := by
  rw [RepL] at h
  exact h
theorem r2_add {K : PySem.W.Frag} : R2ok K (rAddX K) gAdd := by
  intro F S H r σ q x y z vx vy E rx ry hz Q k
  unfold gAdd at hz
  split at hz
  · cases hz
    exact .inl ⟨_, _, rh_int rx, rh_int ry, k _ S H (Ex.refl _) E rp_int⟩
  · obtain ⟨hl, e⟩ := ifs hz
    subst e
    exact .inr (.inl ⟨_, _, rh_str rx, rh_str ry, big_line hl, k _ S H (Ex.refl _) E rp_str⟩)
  · obtain ⟨hl, e⟩ := ifs hz
    subst e
    obtain ⟨a, vs, rfl, h1, h2⟩ := rx
    obtain ⟨b, us, rfl, h3, h4⟩ := ry
    refine .inr (.inr (.inl ⟨a, b, vs, us, rfl, rfl, h1, h3, by rw [← h2.length, ← h4.length]; exact big_line hl, fun p hp => ?_⟩))
    obtain ⟨S', ex, E', rp⟩ := new_lst E hp (h2.append h4)
    exact k _ S' _ ex E' rp
  · obtain ⟨hl, e⟩ := ifs hz
    subst e
    obtain ⟨a, vs, rfl, h1, h1', h2⟩ := rh_tup E.sub rx
    obtain ⟨b, us, rfl, h3, h3', h4⟩ := rh_tup E.sub ry
    refine .inr (.inr (.inr ⟨a, b, vs, us, rfl, rfl, h1, h3, by rw [← h2.length, ← h4.length]; exact big_line hl, fun e => ?_, fun _ e => ?_, fun _ _ p hp => ?_⟩))
    · subst e
      have e2 := List.eq_nil_of_length_eq_zero h2.length
      subst e2
      refine k _ S H (Ex.refl _) E ?_
      rw [Rep]
      exact ⟨b, us, rfl, h3', h4⟩
    · subst e
      have e2 := List.eq_nil_of_length_eq_zero h4.length
      subst e2
      refine k _ S H (Ex.refl _) E ?_
      rw [Rep]
      exact ⟨a, vs, rfl, h1', by rw [List.append_nil]; exact h2⟩
    · obtain ⟨S', ex, E', rp⟩ := new_tup E hp (h2.append h4)
      exact k _ S' _ ex E' rp
  · cases hz
def gI (g : Int → Int → Option Int) : D → D → Option D
  | .int i, .int j => (g i j).map .int
  | _, _ => none
theorem r2_I {K : PySem.W.Frag} {C : Int → Int → Prop} {f : Int → Int → Int} {g : Int → Int → Option Int} (h : ∀ i j k, g i j = some k → C i j ∧ f i j = k) : R2ok K (rI C fun i j => .int (f i j)) (gI g) := by
  intro F S H r σ q x y z vx vy E rx ry hz Q k
  unfold gI at hz
  split at hz
  · rename_i i j
    cases e : g i j with
    | none => rw [e] at hz; cases hz
    | some m =>
      rw [e] at hz
      cases hz
      obtain ⟨h1, h2⟩ := h i j m e
      refine ⟨i, j, rh_int rx, rh_int ry, h1, ?_⟩
      show Q (.int (f i j)) H
      rw [h2]
      exact k _ S H (Ex.refl _) E rp_int
  · cases hz
def gMinus : D → D → Option D := gI fun i j => some (i - j)
theorem r2_sub {K : PySem.W.Frag} : R2ok K (rI0 fun i j => .int (i - j)) gMinus := by
  intro F S H r σ q x y z vx vy E rx ry hz Q k
  obtain ⟨i, j, h1, h2, _, h3⟩ := r2_I (C := fun _ _ => True) (f := fun i j => i - j) (fun i j m h => ⟨trivial, Option.some.inj h⟩) F S H r σ q x y z vx vy E rx ry hz Q k
  exact ⟨i, j, h1, h2, h3⟩
def mulOk (i j : Int) : Bool := decide ((-(2 ^ 64) < i ∧ i < 2 ^ 64) ∨ (-(2 ^ 64) < j ∧ j < 2 ^ 64))
def gMul : D → D → Option D := gI fun i j => if mulOk i j then some (i * j) else none
theorem r2_mul {K : PySem.W.Frag} : R2ok K (rI CMul fun i j => .int (i * j)) gMul := r2_I fun i j k h => by
  have h2 := ifs h
  have h3 : (-(2 ^ 64) < i ∧ i < 2 ^ 64) ∨ (-(2 ^ 64) < j ∧ j < 2 ^ 64) := of_decide_eq_true h2.1
  exact ⟨h3, h2.2⟩
def gDiv : D → D → Option D := gI fun i j => if 0 < j ∧ j < 1073741824 then some (i / j) else none
theorem r2_div {K : PySem.W.Frag} : R2ok K (rI CDiv fun i j => .int (i / j)) gDiv := r2_I fun i j k h => by
  have h2 := ifs h
  exact ⟨h2.1, h2.2⟩
def gMod : D → D → Option D := gI fun i j => if 0 < j then some (i % j) else none
theorem r2_mod {K : PySem.W.Frag} : R2ok K (rI (fun _ j => 0 < j) fun i j => .int (i % j)) gMod := r2_I fun i j k h => by
  have h2 := ifs h
  exact ⟨h2.1, h2.2⟩
def gPow : D → D → Option D := gI fun i j => if 0 ≤ j ∧ j ≤ 1000000 ∧ i.natAbs < 2 ^ 64 then some (i ^ j.toNat) else none
theorem r2_pow {K : PySem.W.Frag} : R2ok K (rI CPow fun i j => .int (i ^ j.toNat)) gPow := r2_I fun i j k h => by
  have h2 := ifs h
  exact ⟨h2.1, h2.2⟩
def eUn (g : D → Option D) (f : ME XV) : ME XV := bnd f fun x => lft (match x with | .d d => (g d).map .d | _ => none)
def gNeg : D → Option D
  | .int i => some (.int (-i))
  | _ => none
section
variable {X : Cx} {W : WX} {e e1 e2 e3 tg : Expr} {es : List Expr} {t t1 t2 t3 : TE} {ta : TA} {f f1 f2 f3 : ME XV} {fa : ME (List XV)} {pos p : Pos} {K : PySem.W.Frag}
theorem is_neg (h : IsE X W e t f) : IsE X W (.UnaryOp .USub e pos) (tUn (rU fun i => .int (-i)) t) (eUn gNeg f) := by
  refine ⟨pe_un un_neg h.pe, ?_⟩
  refine Tok.bind (t2 := fun x σ H Q => rU (fun i => .int (-i)) x H Q) h.ok fun x v F S H r σ q z E rx hz Q P => ?_
  cases x with
  | h n => cases hz
  | d x =>
    cases x with
    | int i =>
      cases hz
      exact ⟨i, xr_int rx, P _ S H r (Ex.refl _) (Rle.refl _) E (show Rep X.K S (.int (-i)) (.int (-i)) from rp_int)⟩
    | _ => cases hz
theorem is_add (h1 : IsE X W e1 t1 f1) (h2 : IsE X W e2 t2 f2) : IsE X W (.BinOp e1 .Add e2 pos) (tOp (rAddX X.K) t1 t2) (eOp gAdd f1 f2) := is_op op_addX r2_add h1 h2
theorem is_sub (h1 : IsE X W e1 t1 f1) (h2 : IsE X W e2 t2 f2) : IsE X W (.BinOp e1 .Sub e2 pos) (tOp (rI0 fun i j => .int (i - j)) t1 t2) (eOp gMinus f1 f2) := is_op op_sub r2_sub h1 h2
theorem is_mul (h1 : IsE X W e1 t1 f1) (h2 : IsE X W e2 t2 f2) : IsE X W (.BinOp e1 .Mult e2 pos) (tOp (rI CMul fun i j => .int (i * j)) t1 t2) (eOp gMul f1 f2) := is_op op_mul r2_mul h1 h2
theorem is_div (h1 : IsE X W e1 t1 f1) (h2 : IsE X W e2 t2 f2) : IsE X W (.BinOp e1 .FloorDiv e2 pos) (tOp (rI CDiv fun i j => .int (i / j)) t1 t2) (eOp gDiv f1 f2) := is_op op_fdiv r2_div h1 h2
theorem is_mod (h1 : IsE X W e1 t1 f1) (h2 : IsE X W e2 t2 f2) : IsE X W (.BinOp e1 .Mod e2 pos) (tOp (rI (fun _ j => 0 < j) fun i j => .int (i % j)) t1 t2) (eOp gMod f1 f2) := is_op op_mod r2_mod h1 h2
theorem is_pow (h1 : IsE X W e1 t1 f1) (h2 : IsE X W e2 t2 f2) : IsE X W (.BinOp e1 .Pow e2 pos) (tOp (rI CPow fun i j => .int (i ^ j.toNat)) t1 t2) (eOp gPow f1 f2) := is_op op_pow r2_pow h1 h2
end
/-! ### comparisons -/
def gC (g : Int → Int → Bool) : D → D → Option D
  | .int i, .int j => some (.bl (g i j))
  | _, _ => none
theorem r2_C {K : PySem.W.Frag} {g : Int → Int → Bool} : R2ok K (rI0 fun i j => .bl (g i j)) (gC g) := by
  intro F S H r σ q x y z vx vy E rx ry hz Q k
  unfold gC at hz
  split at hz
  · cases hz
    exact ⟨_, _, rh_int rx, rh_int ry, k _ S H (Ex.refl _) E rp_bl⟩
  · cases hz
/-! == of scalars, and of data without dicts -/
mutual
def toPy : D → Option PyData
  | .non => some .none
  | .bl b => some (.bool b)
  | .int i => some (.int i)
  | .str s => some (.str s)
  | .tup ds => (toPyL ds).map .tuple
  | .lst ds => (toPyL ds).map .list
  | .ty _ => none
  | .ob _ => none
  | .seq _ => none
  | .dic _ _ => none
  | .dit _ _ => none
def toPyL : List D → Option (List PyData)
  | [] => some []
  | d :: ds => match toPy d, toPyL ds with
    | some x, some xs => some (x :: xs)
    | _, _ => none
end
mutual
theorem dp_of {K : PySem.W.Frag} {S H : Hp} (E : Ex S H) : ∀ (d : D) (x : PyData) (v : V), toPy d = some x → Rep K S d v → Dp K H v x
  | .non, x, v, h, rp => by
    rw [toPy] at h; cases h
    rw [Rep] at rp; subst rp; exact .non
  | .bl b, x, v, h, rp => by
    rw [toPy] at h; cases h
    rw [Rep] at rp; subst rp; exact .bl _
  | .int b, x, v, h, rp => by
    rw [toPy] at h; cases h
    rw [Rep] at rp; subst rp; exact .int _
  | .str b, x, v, h, rp => by
    rw [toPy] at h; cases h
    rw [Rep] at rp; subst rp; exact .str _
  | .tup ds, x, v, h, rp => by
    rw [toPy] at h
    cases e : toPyL ds with
    | none => rw [e] at h; cases h
    | some xs =>
      rw [e] at h; cases h
      rw [Rep] at rp
      obtain ⟨a, vs, rfl, h1, h2⟩ := rp
      exact .tup (SqT.of (E _ _ h1)) (dpL_of E ds xs vs e h2)
  | .lst ds, x, v, h, rp => by
    rw [toPy] at h
    cases e : toPyL ds with
    | none => rw [e] at h; cases h
    | some xs =>
      rw [e] at h; cases h
      rw [Rep] at rp
      obtain ⟨a, vs, rfl, h1, h2⟩ := rp
      exact .lst (SqL.of (E _ _ h1)) (dpL_of E ds xs vs e h2)
  | .ty _, x, v, h, rp => by rw [toPy] at h; cases h
  | .ob _, x, v, h, rp => by rw [toPy] at h; cases h
  | .seq _, x, v, h, rp => by rw [toPy] at h; cases h
  | .dic _ _, x, v, h, rp => by rw [toPy] at h; cases h
  | .dit _ _, x, v, h, rp => by rw [toPy] at h; cases h
theorem dpL_of {K : PySem.W.Frag} {S H : Hp} (E : Ex S H) : ∀ (ds : List D) (xs : List PyData) (vs : List V), toPyL ds = some xs → RepL K S ds vs → DpAll K H vs xs
  | [], xs, vs, h, rp => by
    rw [toPyL] at h; cases h
    rw [RepL] at rp; subst rp; exact .nil
  | d :: ds, xs, vs, h, rp => by
    rw [toPyL] at h
    rw [RepL] at rp
    obtain ⟨v, t, rfl, h1, h2⟩ := rp
    cases e1 : toPy d with
    | none => rw [e1] at h; cases h
    | some x =>
      cases e2 : toPyL ds with
      | none => rw [e1, e2] at h; cases h
      | some ys =>
        rw [e1, e2] at h; cases h
        exact .cons (dp_of E d x v e1 h1) (dpL_of E ds ys t e2 h2)
end
def scalD : D → D → Option Bool
  | .non, .non => some true
  | .int i, .int j => some (decide (i = j))
  | .bl i, .bl j => some (decide (i = j))
  | .str i, .str j => some (decide (i = j))
  | .non, .int _ | .int _, .non | .non, .bl _ | .bl _, .non | .non, .str _ | .str _, .non | .int _, .str _ | .str _, .int _ | .bl _, .str _ | .str _, .bl _ => some false
  | _, _ => none
def deepD (x y : D) : Option Bool := match toPy x, toPy y with
  | some d, some e => if SeqAt.shaped d = true ∧ SeqAt.shaped e = true then some (PyData.eqv d e) else none
  | _, _ => none
def allInt : List D → Bool
  | [] => true
  | .int _ :: ds => allInt ds
  | _ => false
def sameInts : List D → List D → Bool
  | [], [] => true
  | .int i :: xs, .int j :: ys => decide (i = j) && sameInts xs ys
  | _, _ => false
/-- two dicts of ints that are alike, key by key -/
def dicSame : D → D → Bool
  | .dic ks xs, .dic ls ys => decide (ks = ls ∧ ks.Nodup) && sameInts xs ys
  | _, _ => false
def gEq (x y : D) : Option D := match scalD x y with
  | some b => some (.bl b)
  | none => if dicSame x y then some (.bl true) else (deepD x y).map .bl
def gNe (x y : D) : Option D := match scalD x y with
  | some b => some (.bl (!b))
  | none => if dicSame x y then some (.bl false) else (deepD x y).map fun b => .bl (!b)
theorem sameInts_rep {K : PySem.W.Frag} {S : Hp} : ∀ {xs ys : List D} {vs us : List V}, sameInts xs ys = true → RepL K S xs vs → RepL K S ys us → vs = us ∧ ∀ v ∈ vs, flatB v = true
  | [], [], vs, us, _, h1, h2 => by
    have e1 : vs = [] := by rw [RepL] at h1; exact h1
    have e2 : us = [] := by rw [RepL] at h2; exact h2
    subst e1 e2
    exact ⟨rfl, fun v hv => by cases hv⟩
  | .int i :: xs, .int j :: ys, vs, us, h, h1, h2 => by
    have h' : (decide (i = j) && sameInts xs ys) = true := h
    rw [Bool.and_eq_true] at h'
    have e := of_decide_eq_true h'.1
    subst e
    rw [RepL] at h1 h2
    obtain ⟨v, t, rfl, a1, a2⟩ := h1
    obtain ⟨u, t', rfl, b1, b2⟩ := h2
    rw [Rep] at a1 b1
    obtain ⟨e2, f⟩ := sameInts_rep h'.2 a2 b2
    subst e2
    subst a1 b1
    refine ⟨rfl, fun v hv => ?_⟩
    rcases List.mem_cons.mp hv with z | z
    · rw [z]; rfl
    · exact f v z
theorem zip_valV {k : Type} [DecidableEq k] : ∀ {ks : List k} {vs : List V} {p : k × V}, ks.Nodup → p ∈ ks.zip vs → valV (ks.zip vs) p.1 = some p.2
  | [], vs, p, _, h => by simp at h
  | _ :: _, [], p, _, h => by simp at h
  | a :: ks, v :: vs, p, hn, h => by
    rw [List.zip_cons_cons] at h ⊢
    rw [List.nodup_cons] at hn
    rcases List.mem_cons.mp h with e | h
    · subst e
      exact valV_pos (p := (a, v)) rfl
    · have hne : ¬ (a, v).1 = p.1 := fun e => hn.1 (by
        have := (List.of_mem_zip (a := p.1) (b := p.2) h).1
        rw [← e] at this
        exact this)
      rw [valV_neg hne]
      exact zip_valV hn.2 h
theorem dicSame_of {K : PySem.W.Frag} {S H : Hp} {x y : D} {vx vy : V} (h : dicSame x y = true) (rx : RepH K S H x vx) (ry : RepH K S H y vy) :
    ∃ a b ks ls, vx = .ref a ∧ vy = .ref b ∧ H a = some (.dK ks) ∧ H b = some (.dK ls) ∧ ks.length = ls.length ∧ (∀ p ∈ ks, valV ls p.1 = some p.2 ∧ flatB p.2 = true) := by
  unfold dicSame at h
  split at h
  · rename_i ks xs ls ys
    rw [Bool.and_eq_true] at h
    obtain ⟨h1, h2⟩ := h
    obtain ⟨e, hn⟩ := of_decide_eq_true h1
    subst e
    obtain ⟨a, vs, rfl, ha, la, ra⟩ := rx
    obtain ⟨b, us, rfl, hb, lb, rb⟩ := ry
    obtain ⟨e, fl⟩ := sameInts_rep h2 ra rb
    subst e
    exact ⟨a, b, _, _, rfl, rfl, ha, hb, rfl, fun p hp => ⟨zip_valV hn hp, fl _ (List.of_mem_zip (a := p.1) (b := p.2) hp).2⟩⟩
  · cases h
theorem scal_of {K : PySem.W.Frag} {S H : Hp} {x y : D} {vx vy : V} {b : Bool} (h : scalD x y = some b) (rx : RepH K S H x vx) (ry : RepH K S H y vy) : scal vx vy = true ∧ decide (vx = vy) = b := by
  unfold scalD at h
  split at h <;> (try (cases h))
  · rw [rh_non rx, rh_non ry]; exact ⟨rfl, rfl⟩
  · rw [rh_int rx, rh_int ry]; exact ⟨rfl, by rw [dec_int]; rfl⟩
  · rw [rh_bl rx, rh_bl ry]; exact ⟨rfl, by rw [dec_bl]; rename_i i j; cases i <;> cases j <;> rfl⟩
  · rw [rh_str rx, rh_str ry]; exact ⟨rfl, by rw [dec_str]; rw [Bool.beq_eq_decide_eq]⟩
  · rw [rh_non rx, rh_int ry]; exact ⟨rfl, rfl⟩
  · rw [rh_int rx, rh_non ry]; exact ⟨rfl, rfl⟩
  · rw [rh_non rx, rh_bl ry]; exact ⟨rfl, rfl⟩
  · rw [rh_bl rx, rh_non ry]; exact ⟨rfl, rfl⟩
  · rw [rh_non rx, rh_str ry]; exact ⟨rfl, rfl⟩
  · rw [rh_str rx, rh_non ry]; exact ⟨rfl, rfl⟩
  · rw [rh_int rx, rh_str ry]; exact ⟨rfl, rfl⟩
  · rw [rh_str rx, rh_int ry]; exact ⟨rfl, rfl⟩
  · rw [rh_bl rx, rh_str ry]; exact ⟨rfl, rfl⟩
  · rw [rh_str rx, rh_bl ry]; exact ⟨rfl, rfl⟩
/-- deep data as it stands now -/
theorem dpH_of {K : PySem.W.Frag} {S H : Hp} (E : Ex S H) {d : D} {x : PyData} {v : V} (h : toPy d = some x) (rp : RepH K S H d v) : Dp K H v x := by
  cases d with
  | lst ds =>
    rw [toPy] at h
    cases e : toPyL ds with
    | none => rw [e] at h; cases h
    | some xs =>
      rw [e] at h; cases h
      obtain ⟨a, vs, rfl, h1, h2⟩ := rp
      exact .lst (SqL.of h1) (dpL_of E ds xs vs e h2)
  | dic ks ds => rw [toPy] at h; cases h
  | dit ks ds => rw [toPy] at h; cases h
  | _ => exact dp_of E _ _ _ h rp
def rEqX (K : PySem.W.Frag) : R2 := r2Or rEq (r2Or (rEqD K) rEqDA)
def rNeX (K : PySem.W.Frag) : R2 := r2Or rNe (r2Or (rNeD K) rNeDA)
theorem deep_of {K : PySem.W.Frag} {S H : Hp} (E : Ex S H) {x y : D} {vx vy : V} {b : Bool} (h : deepD x y = some b) (rx : RepH K S H x vx) (ry : RepH K S H y vy) : ∃ d e, Dp K H vx d ∧ Dp K H vy e ∧ SeqAt.shaped d = true ∧ SeqAt.shaped e = true ∧ PyData.eqv d e = b := by
  unfold deepD at h
  cases e1 : toPy x with
  | none => rw [e1] at h; cases h
  | some d =>
    cases e2 : toPy y with
    | none => rw [e1, e2] at h; cases h
    | some e =>
      rw [e1, e2] at h
      obtain ⟨h1, h2⟩ := ifs h
      exact ⟨d, e, dpH_of E e1 rx, dpH_of E e2 ry, h1.1, h1.2, h2⟩
theorem r2_eq {K : PySem.W.Frag} : R2ok K (rEqX K) gEq := by
  intro F S H r σ q x y z vx vy E rx ry hz Q k
  unfold gEq at hz
  --DICeq
  cases e : scalD x y with
  | some b =>
    rw [e] at hz
    cases hz
    obtain ⟨h1, h2⟩ := scal_of e rx ry
    exact .inl ⟨h1, by rw [h2]; exact k _ S H (Ex.refl _) E rp_bl⟩
  | none =>
    rw [e] at hz
    by_cases hd : dicSame x y = true
    · simp only [if_pos hd] at hz
      cases hz
      obtain ⟨a, b, ks, ls, h1, h2, h3, h4, h5, h6⟩ := dicSame_of hd rx ry
      exact .inr (.inr ⟨a, b, ks, ls, h1, h2, h3, h4, h5, h6, k _ S H (Ex.refl _) E rp_bl⟩)
    · simp only [if_neg hd] at hz
      cases e2 : deepD x y with
      | none => rw [e2] at hz; cases hz
      | some b =>
        rw [e2] at hz
        cases hz
        obtain ⟨d1, d2, h1, h2, h3, h4, h5⟩ := deep_of E.sub e2 rx ry
        exact .inr (.inl ⟨d1, d2, h1, h2, h3, h4, by rw [h5]; exact k _ S H (Ex.refl _) E rp_bl⟩)
theorem r2_ne {K : PySem.W.Frag} : R2ok K (rNeX K) gNe := by
  intro F S H r σ q x y z vx vy E rx ry hz Q k
  unfold gNe at hz
  --DICne
  cases e : scalD x y with
  | some b =>
    rw [e] at hz
    cases hz
    obtain ⟨h1, h2⟩ := scal_of e rx ry
    exact .inl ⟨h1, by rw [h2]; exact k _ S H (Ex.refl _) E rp_bl⟩
  | none =>
    rw [e] at hz
    by_cases hd : dicSame x y = true
    · simp only [if_pos hd] at hz
      cases hz
      obtain ⟨a, b, ks, ls, h1, h2, h3, h4, h5, h6⟩ := dicSame_of hd rx ry
      exact .inr (.inr ⟨a, b, ks, ls, h1, h2, h3, h4, h5, h6, k _ S H (Ex.refl _) E rp_bl⟩)
    · simp only [if_neg hd] at hz
      cases e2 : deepD x y with
      | none => rw [e2] at hz; cases hz
      | some b =>
        rw [e2] at hz
        cases hz
        obtain ⟨d1, d2, h1, h2, h3, h4, h5⟩ := deep_of E.sub e2 rx ry
        exact .inr (.inl ⟨d1, d2, h1, h2, h3, h4, by rw [h5]; exact k _ S H (Ex.refl _) E rp_bl⟩)
theorem op_eqX {X : Cx} (hu : X.A.units + 64 < cLine) : OpR X (compareOp .Eq) (rEqX X.K) := OpR.or op_eq (OpR.or (op_eqD hu) (op_eq_dictA (by omega)))
theorem op_neX {X : Cx} (hu : X.A.units + 64 < cLine) : OpR X (compareOp .NotEq) (rNeX X.K) := OpR.or op_ne (OpR.or (op_neD hu) (op_ne_dictA (by omega)))
def rIsN : R2 := fun x y H Q => y = .non ∧ Q (.bl (decide (x = .non))) H
def rNotN : R2 := fun x y H Q => y = .non ∧ Q (.bl (!decide (x = .non))) H
def isN : D → Bool
  | .non => true
  | _ => false
def gIsN : D → D → Option D
  | x, .non => some (.bl (isN x))
  | _, _ => none
def gNotN : D → D → Option D
  | x, .non => some (.bl (!isN x))
  | _, _ => none
theorem isN_of {K : PySem.W.Frag} {S H : Hp} {x : D} {v : V} (rx : RepH K S H x v) : decide (v = .non) = isN x := by
  cases x with
  | non => rw [rh_non rx]; rfl
  | bl b => rw [rh_bl rx]; rfl
  | int b => rw [rh_int rx]; rfl
  | str b => rw [rh_str rx]; rfl
  | ty b => rw [rh_ty rx]; rfl
  | ob a =>
    have h' : Rep K S (.ob a) v := rx
    rw [Rep] at h'
    subst h'
    rfl
  | tup ds =>
    have h' : Rep K S (.tup ds) v := rx
    rw [Rep] at h'
    obtain ⟨a, vs, rfl, _⟩ := h'
    rfl
  | seq ds =>
    have h' : Rep K S (.seq ds) v := rx
    rw [Rep] at h'
    obtain ⟨a, vs, rfl, _⟩ := h'
    rfl
  | lst ds =>
    obtain ⟨a, vs, rfl, _⟩ := rx
    rfl
  | dic ks ds =>
    obtain ⟨a, vs, rfl, _⟩ := rx
    rfl
  | dit ks ds =>
    obtain ⟨a, vs, rfl, _⟩ := rx
    rfl
theorem r2_isN {K : PySem.W.Frag} : R2ok K rIsN gIsN := by
  intro F S H r σ q x y z vx vy E rx ry hz Q k
  unfold gIsN at hz
  split at hz
  · cases hz
    exact ⟨rh_non ry, by rw [isN_of rx]; exact k _ S H (Ex.refl _) E rp_bl⟩
  · cases hz
theorem r2_notN {K : PySem.W.Frag} : R2ok K rNotN gNotN := by
  intro F S H r σ q x y z vx vy E rx ry hz Q k
  unfold gNotN at hz
  split at hz
  · cases hz
    exact ⟨rh_non ry, by rw [isN_of rx]; exact k _ S H (Ex.refl _) E rp_bl⟩
  · cases hz
/-! ### an item -/
def lookD {k : Type} [DecidableEq k] : List k → List D → k → Option D
  | a :: ks, d :: ds, b => if a = b then some d else lookD ks ds b
  | _, _, _ => none
def ORep (K : PySem.W.Frag) (S : Hp) : Option D → Option V → Prop
  | some d, some v => Rep K S d v
  | none, none => True
  | _, _ => False
theorem look_val {k : Type} [DecidableEq k] {K : PySem.W.Frag} {S : Hp} : ∀ {ks : List k} {ds : List D} {vs : List V} (b : k), RepL K S ds vs → ks.length = ds.length →
    ORep K S (lookD ks ds b) (valV (ks.zip vs) b)
  | [], [], vs, b, h, _ => by
    rw [len0 h]
    trivial
  | [], _ :: _, _, _, _, h => by simp at h
  | _ :: _, [], _, _, _, h => by simp at h
  | a :: ks, d :: ds, vs, b, h, hl => by
    rw [RepL] at h
    obtain ⟨v, t, rfl, h1, h2⟩ := h
    rw [List.zip_cons_cons]
    unfold lookD
    by_cases e : a = b
    · rw [if_pos e, valV_pos (p := (a, v)) e]
      exact h1
    · rw [if_neg e, valV_neg (p := (a, v)) e]
      exact look_val b h2 (by simpa using hl)
def keyD : D → Option Key
  | .int i => some (.inl i)
  | .str s => some (.inr s)
  | _ => none
def keysD : List D → Option (List Key)
  | [] => some []
  | d :: ds => match keyD d, keysD ds with
    | some k, some ks => some (k :: ks)
    | _, _ => none
theorem keyD_of {K : PySem.W.Frag} {S H : Hp} {d : D} {v : V} {k : Key} (h : keyD d = some k) (rp : Rep K S d v) : v = kV k := by
  cases d with
  | int i => cases h; rw [Rep] at rp; exact rp
  | str i => cases h; rw [Rep] at rp; exact rp
  | _ => cases h
theorem keysD_of {K : PySem.W.Frag} {S : Hp} : ∀ {ds : List D} {vs : List V} {ks : List Key}, keysD ds = some ks → RepL K S ds vs → vs = ks.map kV
  | [], vs, ks, h, rp => by cases h; rw [len0 rp]; rfl
  | d :: ds, vs, ks, h, rp => by
    rw [RepL] at rp
    obtain ⟨v, t, rfl, h1, h2⟩ := rp
    unfold keysD at h
    cases e1 : keyD d with
    | none => rw [e1] at h; cases h
    | some k =>
      cases e2 : keysD ds with
      | none => rw [e1, e2] at h; cases h
      | some ks =>
        rw [e1, e2] at h
        cases h
        rw [keyD_of (H := S) e1 h1, keysD_of e2 h2]
        rfl
/-- what a dict holds -/
def dgetD : D → D → Option (Option D)
  | .dic ks ds, y => (keyD y).map fun k => lookD ks ds k
  | .dit ks ds, .tup es => (keysD es).map fun k => lookD ks ds k
  | _, _ => none
theorem dget_of {K : PySem.W.Frag} {S H : Hp} (E : Ex S H) {x y : D} {vx vy : V} {o : Option D} (h : dgetD x y = some o) (rx : RepH K S H x vx) (ry : RepH K S H y vy) :
    ∃ a ov, vx = .ref a ∧ DGet H a vy ov ∧ IsD H a ∧ ORep K S o ov := by
  cases x with
  | dic ks ds =>
    obtain ⟨a, vs, rfl, h1, h2, h3⟩ := rx
    have h' : (keyD y).map (fun k => lookD ks ds k) = some o := h
    cases e : keyD y with
    | none => rw [e] at h'; cases h'
    | some k =>
      rw [e] at h'
      cases h'
      have ry' : Rep K S y vy := by
        cases y with
        | int i => exact ry
        | str i => exact ry
        | _ => cases e
      rw [keyD_of (H := H) e ry']
      exact ⟨a, valV (ks.zip vs) k, rfl, DGet.k h1, .inl ⟨_, .inl h1⟩, look_val k h3 h2⟩
  | dit ks ds =>
    obtain ⟨a, vs, rfl, h1, h2, h3⟩ := rx
    cases y with
    | tup es =>
      have h' : (keysD es).map (fun k => lookD ks ds k) = some o := h
      cases e : keysD es with
      | none => rw [e] at h'; cases h'
      | some k =>
        rw [e] at h'
        cases h'
        have ry' : Rep K S (.tup es) vy := ry
        rw [Rep] at ry'
        obtain ⟨b, us, rfl, g1, g2⟩ := ry'
        have eu := keysD_of e g2
        subst eu
        exact ⟨a, valV (ks.zip vs) k, rfl, DGet.t h1 (E _ _ g1), .inr ⟨_, .inl h1⟩, look_val k h3 h2⟩
    | _ => cases h
  | _ => cases h
theorem ix_dict {X : Cx} (hu : X.A.units + 1 < cLine) : IxR X (fun x y H Q => ∃ a v, x = .ref a ∧ DGet H a y (some v) ∧ Q v H) := by
  intro value slice pins s σ H x y v u Q I rx ry h hs
  obtain ⟨a, v1, rfl, g, q⟩ := h
  obtain rfl : v = Value.ref a := rx
  unfold subscriptTail
  have hT := dict_typeIs I g
  refine wpAny_bind ?_
  rw [getitemInPython_of_ne hT.not_modules]
  refine wpAny_bind (wpAny_specialOf hT PySem.F.slot_dict_getitem.lookup ?_)
  have fin : wpAny (model X.prog X.w) X.A (subscripted slice false (.ref a) u) (fun r s₃ => wpAny (model X.prog X.w) X.A (letTemporaryGo value (.ref a) r >>= fun _ => pure r) (EP X pins σ Q) X.xe s₃) X.xe s := by
    rw [hs]
    exact wpAny_operating (d_getItem hu I g ry fun w' s' I' rw' => wpAny_bind (wpAny_letTemporaryGo (wpAny_pure ⟨v1, H, I', rw', q⟩)))
  first
    | exact wpAny_pure (wpAny_bind fin)
    | exact wpAny_bind (wpAny_pure (wpAny_bind fin))
    | exact wpAny_bind fin
end Den

namespace Den
open PySem PySem.Spec PyProof.Rows L2
open Evl (Ex)
/-! ### an item, by values -/
section
variable {K : PySem.W.Frag} {F S S' H H' : Hp} {r r' : List Addr} {σ σ' : L2.St} {q q' : Stt} {v w : V}
theorem atI_rep {ds : List D} {vs : List V} {i : Int} {d : D} (rp : RepL K S ds vs) (h : atI ds i = some d) : ∃ v, atI vs i = some v ∧ Rep K S d v := by
  unfold atI at h ⊢
  rw [← rp.length]
  cases e : ixN ds.length i with
  | none => rw [e] at h; cases h
  | some j =>
    rw [e] at h
    exact rp.get h
theorem atI_xrep {ds : List XV} {vs : List V} {i : Int} {d : XV} (rp : XRepL K S r ds vs) (h : atI ds i = some d) : ∃ v, atI vs i = some v ∧ XRep K S r d v := by
  unfold atI at h ⊢
  rw [← rp.length]
  cases e : ixN ds.length i with
  | none => rw [e] at h; cases h
  | some j =>
    rw [e] at h
    exact rp.get h
end
def ixD : D → D → Option D
  | .tup ds, .int i => atI ds i
  | .lst ds, .int i => atI ds i
  | .seq ds, .int i => atI ds i
  | .str s, .int i => if s.length ≤ big then (atI s.cps.toList i).map fun c => .str ⟨#[c]⟩ else none
  | .dic ks ds, y => (keyD y).bind fun k => lookD ks ds k
  | .dit ks ds, .tup es => (keysD es).bind fun k => lookD ks ds k
  | _, _ => none
def rDix : R2 := fun x y H Q => ∃ a v, x = .ref a ∧ DGet H a y (some v) ∧ Q v H
def rIxX (K : PySem.W.Frag) : R2 := r2Or (rIx K) rDix
theorem ix_X {X : Cx} (hu : X.A.units + 1 < cLine) : IxR X (rIxX X.K) := IxR.or ix_seq (ix_dict hu)
theorem r2_ix {K : PySem.W.Frag} : R2ok K (rIxX K) ixD := by
  intro F S H r σ q x y z vx vy E rx ry hz Q k
  unfold ixD at hz
  split at hz
  · obtain ⟨a, vs, rfl, h1, h1', h2⟩ := rh_tup E.sub rx
    obtain ⟨v, h3, h4⟩ := atI_rep h2 hz
    exact .inl (.inr (.inl ⟨a, vs, _, v, rfl, rh_int ry, h1, h3, k _ S H (Ex.refl _) E h4⟩))
  · obtain ⟨a, vs, rfl, h1, h2⟩ := rx
    obtain ⟨v, h3, h4⟩ := atI_rep h2 hz
    exact .inl (.inl ⟨a, vs, _, v, rfl, rh_int ry, SqL.of h1, h3, k _ S H (Ex.refl _) E h4⟩)
  · obtain ⟨a, vs, rfl, h1, h2⟩ := rh_seq E.sub rx
    obtain ⟨v, h3, h4⟩ := atI_rep h2 hz
    exact .inl (.inl ⟨a, vs, _, v, rfl, rh_int ry, h1, h3, k _ S H (Ex.refl _) E h4⟩)
  · rename_i s i
    by_cases hl : s.length ≤ big
    · rw [if_pos hl] at hz
      cases e : atI s.cps.toList i with
      | none => rw [e] at hz; cases hz
      | some c =>
        rw [e] at hz
        cases hz
        exact .inl (.inr (.inr ⟨s, i, c, rh_str rx, rh_int ry, big_line hl, e, k _ S H (Ex.refl _) E rp_str⟩))
    · rw [if_neg hl] at hz
      cases hz
  · rename_i ks ds
    cases e : keyD y with
    | none => rw [e] at hz; cases hz
    | some kk =>
      rw [e] at hz
      have hz' : lookD ks ds kk = some z := hz
      obtain ⟨a, ov, rfl, g, _, o⟩ := dget_of (o := some z) E.sub (x := .dic ks ds) (y := y) (by show (keyD y).map _ = _; rw [e]; exact congrArg some hz') rx ry
      cases ov with
      | none => exact False.elim o
      | some v => exact .inr ⟨a, v, rfl, g, k _ S H (Ex.refl _) E o⟩
  · rename_i ks ds es
    cases e : keysD es with
    | none => rw [e] at hz; cases hz
    | some kk =>
      rw [e] at hz
      have hz' : lookD ks ds kk = some z := hz
      obtain ⟨a, ov, rfl, g, _, o⟩ := dget_of (o := some z) E.sub (x := .dit ks ds) (y := .tup es) (by show (keysD es).map _ = _; rw [e]; exact congrArg some hz') rx ry
      cases ov with
      | none => exact False.elim o
      | some v => exact .inr ⟨a, v, rfl, g, k _ S H (Ex.refl _) E o⟩
  · cases hz
def ixX (w : List WO) : XV → XV → Option XV
  | .d x, .d y => (ixD x y).map .d
  | .h n, .d (.int i) => match w[n]? with
    | some (.lst xs) => atI xs i
    | _ => none
  | _, _ => none
def eIx (f1 f2 : ME XV) : ME XV := bnd f1 fun x => bnd f2 fun y q => (ixX q.w x y).map fun z => (.ok z, q)
section
variable {X : Cx} {W : WX} {e e1 e2 e3 tg : Expr} {es : List Expr} {t t1 t2 t3 : TE} {ta : TA} {f f1 f2 f3 : ME XV} {fa : ME (List XV)} {pos p : Pos} {K : PySem.W.Frag} {fl : ME (List D)}
theorem tok_ix (h1 : Tok (RX K) K W t1 f1) (h2 : Tok (RX K) K W t2 f2) : Tok (RX K) K W (tOp (rIxX K) t1 t2) (eIx f1 f2) := by
  refine Tok.bind (t2 := fun x σ H Q => t2 σ H fun y H1 => rIxX K x y H1 Q) h1 (Beh.bind (t3 := fun x y σ H Q => rIxX K x y H Q) monoX h2 fun x v y w F S H r σ q z E rx ry hz Q P => ?_)
  have hz' : (ixX q.w x y).map (fun z => ((.ok z, q) : Rs XV)) = some z := hz
  cases e : ixX q.w x y with
  | none => rw [e] at hz'; cases hz'
  | some u =>
    rw [e] at hz'
    cases hz'
    unfold ixX at e
    split at e
    · rename_i x y
      cases e2 : ixD x y with
      | none => rw [e2] at e; cases e
      | some d =>
        rw [e2] at e
        cases e
        exact r2_ix F S H r σ q x y d v w E (Rep.toH E.sub rx) (Rep.toH E.sub ry) e2 Q fun v' S' H' ex E' rp => P v' S' H' r ex (Rle.refl _) E' rp
    · rename_i n i
      split at e
      · rename_i xs ew
        obtain ⟨ow, e0⟩ := id E
        obtain ⟨a, vs, g1, g2, g3, g4⟩ := e0.wob n _ ew
        obtain ⟨a', k1, k2⟩ := rx
        rw [g1] at k1
        cases k1
        subst k2
        obtain ⟨v', h3, h4⟩ := atI_xrep g4 e
        exact .inl (.inl ⟨a, vs, i, v', rfl, xr_int ry, SqL.of g3, h3, P v' S H r (Ex.refl _) (Rle.refl _) E h4⟩)
      · cases e
    · cases e
theorem is_ix (hu : X.A.units + 1 < cLine) (h1 : IsE X W e1 t1 f1) (h2 : IsE X W e2 t2 f2) (hs : PlainIx e2 := by exact fun _ _ => rfl) : IsE X W (.Subscript e1 e2 pos) (tOp (rIxX X.K) t1 t2) (eIx f1 f2) := ⟨pe_ix (ix_X hu) h1.pe h2.pe hs, tok_ix h1.ok h2.ok⟩
/-! ### what a name's slot holds, lent -/
def peek (q : Stt) (i : Nat) : Option D := match q.sl[i]? with
  | some (.dat d) => some d
  | some (.ol ds) => some (.lst ds)
  | some (.od ks ds) => some (.dic ks ds)
  | some (.ot ks ds) => some (.dit ks ds)
  | _ => none
theorem getD_some {a : Type} {o : Option (Option a)} {x : a} (h : o.getD none = some x) : o = some (some x) := by
  cases o with
  | none => cases h
  | some y => exact congrArg some h
theorem Env.peek {F S H : Hp} {r : List Addr} {σ : L2.St} {q : Stt} {i : Nat} {d : D} (E : Env K F S H r σ q) (h : peek q i = some d) : ∃ v, σ[i]? = some (some v) ∧ RepH K S H d v := by
  obtain ⟨ow, e⟩ := E
  unfold Den.peek at h
  cases es : q.sl[i]? with
  | none => rw [es] at h; cases h
  | some s =>
    rw [es] at h
    have hs := e.slot i s es
    cases s with
    | un => cases h
    | hnd n => cases h
    | dat d0 =>
      cases h
      obtain ⟨v, h1, h2⟩ := hs
      exact ⟨v, getD_some h1, h2.toH e.sub⟩
    | ol ds =>
      cases h
      obtain ⟨a, vs, h1, h2, h3, h4⟩ := hs
      exact ⟨.ref a, getD_some h1, a, vs, rfl, h3, h4⟩
    | od ks ds =>
      cases h
      obtain ⟨a, vs, h1, h2, h3, h5, h4⟩ := hs
      exact ⟨.ref a, getD_some h1, a, vs, rfl, h3, h5, h4⟩
    | ot ks ds =>
      cases h
      obtain ⟨a, vs, h1, h2, h3, h5, h4⟩ := hs
      exact ⟨.ref a, getD_some h1, a, vs, rfl, h3, h5, h4⟩
/-- x op e, x a name -/
def eOpV (g : D → D → Option D) (i : Nat) (f2 : ME XV) : ME XV := fun q => match peek q i with
  | none => none
  | some _ => bnd f2 (fun y q1 => match y, peek q1 i with
    | .d y, some x => (g x y).map fun z => (.ok (.d z), q1)
    | _, _ => none) q
theorem run_at {a b t u : Type} {rep : RP a t} {rep2 : RP b u} {te : TX t} {f : ME a} {g : a → ME b} {F S H : Hp} {r : List Addr} {σ : L2.St} {q : Stt} {z : Rs b} {Q : u → Hp → Prop} {Q1 : t → Hp → Prop} (h : Tok rep K W te f) (E : Env K F S H r σ q) (hz : bnd f g q = some z) (P : Post rep2 K W F S r σ z Q)
    (k : ∀ x v S1 H1 r1 q1, Ex S S1 → Rle r r1 → Env K F S1 H1 r1 σ q1 → rep S1 r1 x v → g x q1 = some z → Post rep2 K W F S1 r1 σ z Q → Q1 v H1) : te σ H Q1 := by
  rw [bnd_eq] at hz
  cases e : f q with
  | none => rw [e] at hz; cases hz
  | some z1 =>
    obtain ⟨x, q1⟩ := z1
    rw [e] at hz
    cases x with
    | error c =>
      cases hz
      exact h F S H r σ q _ E e _ P
    | ok x => exact h F S H r σ q _ E e _ fun v S1 H1 r1 e1 k1 E1 rp => k x v S1 H1 r1 q1 e1 k1 E1 rp hz (P.mono e1 k1)
theorem tok_opV {r2 : R2} {g : D → D → Option D} {i : Nat} (hr : R2ok K r2 g) (h2 : Tok (RX K) K W t2 f2) : Tok (RX K) K W (tOp r2 (tVar i) t2) (eOpV g i f2) := by
  intro F S H r σ q z E hz Q P
  unfold eOpV at hz
  cases e0 : Den.peek q i with
  | none => rw [e0] at hz; cases hz
  | some d0 =>
    rw [e0] at hz
    obtain ⟨v0, hv0, _⟩ := E.peek e0
    refine ⟨v0, hv0, run_at h2 E hz P fun y w S1 H1 r1 q1 ex1 k1 E1 ry hz P => ?_⟩
    cases y with
    | h n => cases hz
    | d y =>
      cases e1 : Den.peek q1 i with
      | none => simp only [e1] at hz; cases hz
      | some x =>
        simp only [e1] at hz
        cases e2 : g x y with
        | none => rw [e2] at hz; cases hz
        | some d =>
          rw [e2] at hz
          cases hz
          obtain ⟨v1, hv1, rx⟩ := E1.peek e1
          rw [hv0] at hv1
          cases hv1
          exact hr F S1 H1 r1 σ q1 x y d v0 w E1 rx (Rep.toH E1.sub ry) e2 Q fun v' S' H' ex E' rp => P v' S' H' r1 ex (Rle.refl _) E' rp
theorem is_ixV (i : Nat) {x : Str} {p2 : Pos} (hu : X.A.units + 1 < cLine) (h2 : IsE X W e2 t2 f2) (hN : X.N[i]? = some x := by rfl) (hv : Vis X.env.scope x := by first | exact Or.inl rfl | exact Or.inr (Or.inl rfl) | exact Or.inr (Or.inr rfl)) (hd : (x == ("__debug__" : Str)) = false := by decide)
    (hcd : (x == ("__classdict__" : Str)) = false := by decide) (hs : PlainIx e2 := by exact fun _ _ => rfl) : IsE X W (.Subscript (.Name x p2) e2 pos) (tOp (rIxX X.K) (tVar i) t2) (eOpV ixD i f2) := ⟨pe_ix (ix_X hu) (pe_var hN hv hd hcd) h2.pe hs, tok_opV r2_ix h2.ok⟩
/-- e op x, x a name -/
def eOpB (g : D → D → Option D) (f1 : ME XV) (i : Nat) : ME XV := bnd f1 fun x q1 => match x, peek q1 i with
  | .d x, some y => (g x y).map fun z => (.ok (.d z), q1)
  | _, _ => none
theorem tok_opB {r2 : R2} {g : D → D → Option D} {i : Nat} (hr : R2ok K r2 g) (h1 : Tok (RX K) K W t1 f1) : Tok (RX K) K W (tOp r2 t1 (tVar i)) (eOpB g f1 i) := by
  intro F S H r σ q z E hz Q P
  show t1 σ H (fun x H1 => tVar i σ H1 fun y H2 => r2 x y H2 Q)
  refine run_at (rep2 := RX K) h1 E hz P fun y w S1 H1 r1 q1 ex1 k1 E1 ry hz P => ?_
  cases y with
  | h n => cases hz
  | d y =>
    cases e1 : Den.peek q1 i with
    | none => simp only [e1] at hz; cases hz
    | some x =>
      simp only [e1] at hz
      cases e2 : g y x with
      | none => rw [e2] at hz; cases hz
      | some d =>
        rw [e2] at hz
        cases hz
        obtain ⟨v1, hv1, rx⟩ := E1.peek e1
        exact ⟨v1, hv1, hr F S1 H1 r1 σ q1 y x d w v1 E1 (Rep.toH E1.sub ry) rx e2 Q fun v' S' H' ex E' rp => P v' S' H' r1 ex (Rle.refl _) E' rp⟩
/-- f(x), f a built-in, x a name -/
def eCBV (g : List D → Option D) (i : Nat) : ME XV := fun q => (peek q i).bind fun d => (g [d]).map fun z => (.ok (.d z), q)
theorem tok_cbV {rc : List V → Hp → VK → Prop} {g : List D → Option D} {i : Nat} (hr : RCok K rc g) : Tok (RX K) K W (tCB rc (tCons (tVar i) tNil)) (eCBV g i) := by
  intro F S H r σ q z E hz Q P
  unfold eCBV at hz
  cases e0 : Den.peek q i with
  | none => rw [e0] at hz; cases hz
  | some d0 =>
    rw [e0] at hz
    obtain ⟨v0, hv0, rx⟩ := E.peek e0
    have hz' : (g [d0]).map (fun z => ((.ok (.d z), q) : Rs XV)) = some z := hz
    cases e1 : g [d0] with
    | none => rw [e1] at hz'; cases hz'
    | some d =>
      rw [e1] at hz'
      cases hz'
      exact ⟨v0, hv0, hr F S H r σ q [d0] d [v0] E ⟨v0, [], rfl, rx, rfl⟩ e1 Q fun v' S' H' ex E' rp => P v' S' H' r ex (Rle.refl _) E' rp⟩
def lCBV (g : List D → Option (List D)) (i : Nat) : ME (List D) := fun q => (peek q i).bind fun d => (g [d]).map fun z => (.ok z, q)
theorem tokL_cbV {rc : List V → Hp → VK → Prop} {g : List D → Option (List D)} {i : Nat} (hr : RLok K rc g) : TokL K W (tCB rc (tCons (tVar i) tNil)) (lCBV g i) := by
  intro F S H r σ q z E hz Q P
  unfold lCBV at hz
  cases e0 : Den.peek q i with
  | none => rw [e0] at hz; cases hz
  | some d0 =>
    rw [e0] at hz
    obtain ⟨v0, hv0, rx⟩ := E.peek e0
    have hz' : (g [d0]).map (fun z => ((.ok z, q) : Rs (List D))) = some z := hz
    cases e1 : g [d0] with
    | none => rw [e1] at hz'; cases hz'
    | some d =>
      rw [e1] at hz'
      cases hz'
      exact ⟨v0, hv0, hr F S H r σ q [d0] d [v0] E ⟨v0, [], rfl, rx, rfl⟩ e1 Q fun p us hp rp => P p us S _ r (Ex.refl _) (Rle.refl _) (E.newF hp) (E.add hp (.lst us)) rp⟩
theorem is_cbV (i : Nat) {x y : Str} {p p2 : Pos} {id : String} {rc : List V → Hp → VK → Prop} {g : List D → Option D} (hc : CallR X (.builtin id) rc) (hr : RCok X.K rc g) (hg : Gl X x) (hm : X.mg x = none) (hv : bootBuiltins x = some (.builtin id)) (hN : X.N[i]? = some y := by rfl) (hvs : Vis X.env.scope y := by first | exact Or.inl rfl | exact Or.inr (Or.inl rfl) | exact Or.inr (Or.inr rfl)) (hd : (y == ("__debug__" : Str)) = false := by decide)
    (hcd : (y == ("__classdict__" : Str)) = false := by decide)
    (hn : x ≠ "__name__" := by decide) (hdb : (x == ("__debug__" : Str)) = false := by decide) (he0 : starEach [.Name y p2] X.env = (false, eval (.Name y p2) X.env) :: starEach [] X.env := by rfl) (hpl : (backTo pos (starEach [] X.env)).any (·.1) = false := by rfl) :
    IsE X W (.Call (.Name x p) [.Name y p2] [] pos) (tCB rc (tCons (tVar i) tNil)) (eCBV g i) := ⟨pe_callB hc hg hm hv (pa_cons (pe_var hN hvs hd hcd) pa_nil he0) hn hdb he0 hpl, tok_cbV hr⟩
theorem is_ctyV (i : Nat) {x y : Str} {p p2 : Pos} {T : String} {rc : List V → Hp → VK → Prop} {g : List D → Option D} (hc : CallR X (.type T) rc) (hr : RCok X.K rc g) (hg : Gl X x) (hm : X.mg x = none) (hv : bootBuiltins x = some (.type T)) (hN : X.N[i]? = some y := by rfl) (hvs : Vis X.env.scope y := by first | exact Or.inl rfl | exact Or.inr (Or.inl rfl) | exact Or.inr (Or.inr rfl)) (hd : (y == ("__debug__" : Str)) = false := by decide)
    (hcd : (y == ("__classdict__" : Str)) = false := by decide)
    (hn : x ≠ "__name__" := by decide) (hdb : (x == ("__debug__" : Str)) = false := by decide) (he0 : starEach [.Name y p2] X.env = (false, eval (.Name y p2) X.env) :: starEach [] X.env := by rfl) (hpl : (backTo pos (starEach [] X.env)).any (·.1) = false := by rfl) :
    IsE X W (.Call (.Name x p) [.Name y p2] [] pos) (tCB rc (tCons (tVar i) tNil)) (eCBV g i) := ⟨pe_callTy hc hg hm hv (pa_cons (pe_var hN hvs hd hcd) pa_nil he0) hn hdb he0 hpl, tok_cbV hr⟩
/-! ### built-ins -/
def gLen : List D → Option D
  | [.lst ds] => some (.int ds.length)
  | [.tup ds] => some (.int ds.length)
  | [.seq ds] => some (.int ds.length)
  | [.str s] => if s.length ≤ big then some (.int s.length) else none
  | _ => none
def rLenX (K : PySem.W.Frag) : List V → Hp → VK → Prop := fun xs H Q => (∃ p ys, xs = [.ref p] ∧ (SqL K H p ys ∨ SqT K H p ys) ∧ Q (.int ys.length) H) ∨ (∃ z, xs = [.str z] ∧ z.length ≤ sizeLine ∧ Q (.int z.length) H)
theorem call_lenX {X : Cx} : CallR X (.builtin "len") (rLenX X.K) := CallR.or call_len_seq call_len_str
theorem one_rep {F S H : Hp} {d : D} {vs : List V} (h : RepHL K S H [d] vs) : ∃ v, vs = [v] ∧ RepH K S H d v := by
  obtain ⟨v, t, rfl, h1, h2⟩ := h
  have e : t = [] := h2
  subst e
  exact ⟨v, rfl, h1⟩
theorem two_rep {F S H : Hp} {d d2 : D} {vs : List V} (h : RepHL K S H [d, d2] vs) : ∃ v v2, vs = [v, v2] ∧ RepH K S H d v ∧ RepH K S H d2 v2 := by
  obtain ⟨v, t, rfl, h1, h2⟩ := h
  obtain ⟨v2, t, rfl, h3, h4⟩ := h2
  have e : t = [] := h4
  subst e
  exact ⟨v, v2, rfl, h1, h3⟩
theorem rc_len : RCok K (rLenX K) gLen := by
  intro F S H r σ q ds z vs E rp hz Q k
  unfold gLen at hz
  split at hz
  · cases hz
    obtain ⟨v, rfl, a, us, rfl, h1, h2⟩ := one_rep (F := H) rp
    exact .inl ⟨a, us, rfl, .inl (SqL.of h1), by rw [← h2.length]; exact k _ S H (Ex.refl _) E rp_int⟩
  · cases hz
    obtain ⟨v, rfl, h⟩ := one_rep (F := H) rp
    obtain ⟨a, us, rfl, h1, _, h2⟩ := rh_tup E.sub h
    exact .inl ⟨a, us, rfl, .inr h1, by rw [← h2.length]; exact k _ S H (Ex.refl _) E rp_int⟩
  · cases hz
    obtain ⟨v, rfl, h⟩ := one_rep (F := H) rp
    obtain ⟨a, us, rfl, h1, h2⟩ := rh_seq E.sub h
    exact .inl ⟨a, us, rfl, .inl h1, by rw [← h2.length]; exact k _ S H (Ex.refl _) E rp_int⟩
  · obtain ⟨hl, e⟩ := ifs hz
    subst e
    obtain ⟨v, rfl, h⟩ := one_rep (F := H) rp
    exact .inr ⟨_, by rw [rh_str h], big_line hl, k _ S H (Ex.refl _) E rp_int⟩
  · cases hz
def gInt : List D → Option D
  | [.int i] => some (.int i)
  | [.bl b] => some (.int (if b then 1 else 0))
  | _ => none
theorem rc_int : RCok K (fun xs H Q => (∃ i, xs = [.int i] ∧ Q (.int i) H) ∨ ∃ k, xs = [.bl k] ∧ Q (.int (if k then 1 else 0)) H) gInt := by
  intro F S H r σ q ds z vs E rp hz Q k
  unfold gInt at hz
  split at hz
  · cases hz
    obtain ⟨v, rfl, h⟩ := one_rep (F := H) rp
    exact .inl ⟨_, by rw [rh_int h], k _ S H (Ex.refl _) E rp_int⟩
  · cases hz
    obtain ⟨v, rfl, h⟩ := one_rep (F := H) rp
    exact .inr ⟨_, by rw [rh_bl h], k _ S H (Ex.refl _) E rp_int⟩
  · cases hz
def gAbs : List D → Option D
  | [.int i] => some (.int (if i < 0 then -i else i))
  | _ => none
theorem rc_abs : RCok K (fun xs H Q => ∃ i, xs = [.int i] ∧ Q (.int (if i < 0 then -i else i)) H) gAbs := by
  intro F S H r σ q ds z vs E rp hz Q k
  unfold gAbs at hz
  split at hz
  · cases hz
    obtain ⟨v, rfl, h⟩ := one_rep (F := H) rp
    exact ⟨_, by rw [rh_int h], k _ S H (Ex.refl _) E rp_int⟩
  · cases hz
def gMax : List D → Option D
  | [.int i, .int j] => some (.int (if j > i then j else i))
  | _ => none
theorem rc_max : RCok K (fun xs H Q => ∃ i j, xs = [.int i, .int j] ∧ Q (.int (if j > i then j else i)) H) gMax := by
  intro F S H r σ q ds z vs E rp hz Q k
  unfold gMax at hz
  split at hz
  · cases hz
    obtain ⟨v, v2, rfl, h, h2⟩ := two_rep (F := H) rp
    exact ⟨_, _, by rw [rh_int h, rh_int h2], k _ S H (Ex.refl _) E rp_int⟩
  · cases hz
def gMin : List D → Option D
  | [.int i, .int j] => some (.int (if j < i then j else i))
  | _ => none
theorem rc_min : RCok K (fun xs H Q => ∃ i j, xs = [.int i, .int j] ∧ Q (.int (if j < i then j else i)) H) gMin := by
  intro F S H r σ q ds z vs E rp hz Q k
  unfold gMin at hz
  split at hz
  · cases hz
    obtain ⟨v, v2, rfl, h, h2⟩ := two_rep (F := H) rp
    exact ⟨_, _, by rw [rh_int h, rh_int h2], k _ S H (Ex.refl _) E rp_int⟩
  · cases hz
def intsD : List D → Option (List Int)
  | [] => some []
  | .int i :: ds => (intsD ds).map (i :: ·)
  | _ => none
theorem intsD_rep {S : Hp} : ∀ {ds : List D} {ns : List Int} {vs : List V}, intsD ds = some ns → RepL K S ds vs → vs = ns.map V.int
  | [], ns, vs, h, rp => by
    cases h
    rw [len0 rp]
    rfl
  | .int i :: ds, ns, vs, h, rp => by
    have h' : (intsD ds).map (i :: ·) = some ns := h
    cases e : intsD ds with
    | none => rw [e] at h'; cases h'
    | some ms =>
      rw [e] at h'
      cases h'
      rw [RepL] at rp
      obtain ⟨v, t, rfl, h1, h2⟩ := rp
      rw [Rep] at h1
      rw [h1, intsD_rep e h2]
      rfl
theorem intsD_map (ns : List Int) : intsD (ns.map D.int) = some ns := by
  induction ns with
  | nil => rfl
  | cons n ns ih =>
    show (intsD (ns.map D.int)).map (n :: ·) = _
    rw [ih]
    rfl
def gSum : List D → Option D
  | [.lst ds] => (intsD ds).map fun ns => .int ns.sum
  | _ => none
theorem rc_sum : RCok K (rSum K) gSum := by
  intro F S H r σ q ds z vs E rp hz Q k
  unfold gSum at hz
  split at hz
  · rename_i ds
    cases e : intsD ds with
    | none => rw [e] at hz; cases hz
    | some ns =>
      rw [e] at hz
      cases hz
      obtain ⟨v, rfl, a, us, rfl, h1, h2⟩ := one_rep (F := H) rp
      have e2 := intsD_rep e h2
      subst e2
      exact ⟨a, ns, rfl, SqL.of h1, k _ S H (Ex.refl _) E rp_int⟩
  · cases hz
def gTuple : List D → Option D
  | [.lst ds] => some (.tup ds)
  | [.tup ds] => some (.tup ds)
  | _ => none
def rTuple (K : PySem.W.Frag) : List V → Hp → VK → Prop := fun xs H Q => ∃ p ys, xs = [.ref p] ∧ ((SqL K H p ys ∧ ∀ l, H l = none → Q (.ref l) (upd H l (.tup ys))) ∨ (SqT K H p ys ∧ Q (.ref p) H))
theorem rc_tuple : RCok K (rTuple K) gTuple := by
  intro F S H r σ q ds z vs E rp hz Q k
  unfold gTuple at hz
  split at hz
  · cases hz
    obtain ⟨v, rfl, a, us, rfl, h1, h2⟩ := one_rep (F := H) rp
    refine ⟨a, us, rfl, .inl ⟨SqL.of h1, fun p hp => ?_⟩⟩
    obtain ⟨S', ex, E', rp'⟩ := new_tup E hp h2
    exact k _ S' _ ex E' rp'
  · cases hz
    obtain ⟨v, rfl, h⟩ := one_rep (F := H) rp
    obtain ⟨a, us, rfl, h1, h1', h2⟩ := rh_tup E.sub h
    refine ⟨a, us, rfl, .inr ⟨h1, k _ S H (Ex.refl _) E ?_⟩⟩
    rw [Rep]
    exact ⟨a, us, rfl, h1', h2⟩
  · cases hz
def gList : List D → Option (List D)
  | [.lst ds] => some ds
  | [.tup ds] => some ds
  | [.seq ds] => some ds
  | _ => none
def rList (K : PySem.W.Frag) : List V → Hp → VK → Prop := fun xs H Q => ∃ p ys, xs = [.ref p] ∧ (SqL K H p ys ∨ SqT K H p ys) ∧ ∀ l, H l = none → Q (.ref l) (upd H l (.lst ys))
theorem rl_list : RLok K (rList K) gList := by
  intro F S H r σ q ds z vs E rp hz Q k
  unfold gList at hz
  split at hz
  · cases hz
    obtain ⟨v, rfl, a, us, rfl, h1, h2⟩ := one_rep (F := H) rp
    exact ⟨a, us, rfl, .inl (SqL.of h1), fun p hp => k p us hp h2⟩
  · cases hz
    obtain ⟨v, rfl, h⟩ := one_rep (F := H) rp
    obtain ⟨a, us, rfl, h1, h1', h2⟩ := rh_tup E.sub h
    exact ⟨a, us, rfl, .inr h1, fun p hp => k p us hp h2⟩
  · cases hz
    obtain ⟨v, rfl, h⟩ := one_rep (F := H) rp
    obtain ⟨a, us, rfl, h1, h2⟩ := rh_seq E.sub h
    exact ⟨a, us, rfl, .inl h1, fun p hp => k p us hp h2⟩
  · cases hz
/-- list(range(e)) -/
theorem rep_iota {S : Hp} : ∀ (n : Nat) (lo : Int), RepL K S (iota lo n) ((List.range n).map fun i => V.int (lo + (i : Nat)))
  | 0, lo => RepL.nil
  | n + 1, lo => by
    rw [List.range_succ_eq_map, List.map_cons, List.map_map]
    refine RepL.cons (by rw [Rep]; simp) ?_
    have h := rep_iota (S := S) n (lo + 1)
    have e : (List.range n).map (fun i => V.int (lo + 1 + (i : Nat))) = (List.range n).map ((fun i => V.int (lo + (i : Nat))) ∘ Nat.succ) := by
      apply List.map_congr_left
      intro i _
      show V.int _ = V.int _
      congr 1
      simp only [Nat.succ_eq_add_one, Int.natCast_add]
      omega
    rw [← e]
    exact h
def lRng (f : ME XV) : ME (List D) := bnd f fun x => lft (match x with | .d (.int n) => if -(2 ^ 62) ≤ n ∧ n ≤ 100000 then some (iota 0 n.toNat) else none | _ => none)
theorem is_lrng {p1 p2 pos2 : Pos} (h : IsE X W e t f) (hg : Gl X "range") (hm : X.mg "range" = none) (hg2 : Gl X "list") (hm2 : X.mg "list" = none) (hc : X.calm = true := by rfl) (na : starEach [e] X.env = (false, eval e X.env) :: starEach [] X.env := by rfl)
    (na2 : starEach [.Call (.Name "range" p1) [e] [] pos2] X.env = (false, eval (.Call (.Name "range" p1) [e] [] pos2) X.env) :: starEach [] X.env := by rfl) :
    IsL X W (.Call (.Name "list" p2) [.Call (.Name "range" p1) [e] [] pos2] [] pos) (tLstRg (tRg1 t)) (lRng f) := by
  refine ⟨pe_listRg hc hg2 hm2 (prg_1 hg hm h.pe na) na2, ?_⟩
  refine TokL.bind (t2 := fun x σ H Q => ∃ n, x = V.int n ∧ (RgOk 0 n ∧ ∀ q, H q = none → Q (.ref q) (upd H q (.lst (rgV 0 n))))) h.ok fun x v F S H r σ q z E rx hz Q P => ?_
  cases x with
  | h n => cases hz
  | d x =>
    cases x with
    | int n =>
      unfold lft at hz
      split at hz
      · cases hz
      · rename_i y hy
        obtain ⟨hn, e1⟩ := ifs hy
        subst e1
        cases hz
        refine ⟨n, xr_int rx, ⟨by omega, by omega, by omega, by omega, by omega⟩, fun p hp => ?_⟩
        have hrp : RepL X.K S (iota 0 n.toNat) (rgV 0 n) := by
          unfold rgV
          have h1 := rep_iota (K := X.K) (S := S) n.toNat 0
          rw [Int.sub_zero]
          exact h1
        exact P p (rgV 0 n) S _ r (Ex.refl _) (Rle.refl _) (E.newF hp) (E.add hp _) hrp
    | _ => cases hz
end
end Den

namespace Den
open PySem PySem.Spec PyProof.Rows L2
open Evl (Ex)
section
variable {K : PySem.W.Frag} {F F' S S' H H' : Hp} {r r' : List Addr} {σ σ' : L2.St} {q q' : Stt} {i n : Nat} {p a : Addr}
/-- an owned list, out into the frame -/
theorem Env.outL {ds : List D} (E : Env K F S H r σ q) (h : q.sl[i]? = some (.ol ds)) :
    ∃ a vs, σ[i]? = some (some (.ref a)) ∧ H a = some (.lst vs) ∧ F a = none ∧ RepL K S ds vs ∧ i < q.sl.length ∧ Env K (upd F a (.lst vs)) S H r σ { q with sl := q.sl.set i .un } := by
  obtain ⟨a, o, ha, hH, hF, E1, ow, hw, hs⟩ := E.disown h fun ow hk => by
    obtain ⟨a, vs, h1, h2, h3, h4⟩ := hk
    exact ⟨a, _, getD_some h1, h2, h3⟩
  obtain ⟨a', vs, h1, h2, h3, h4⟩ := hs
  cases h1
  rw [hH] at h3
  cases h3
  exact ⟨a, vs, ha, hH, hF, h4, (List.getElem?_eq_some_iff.mp h).1, E1⟩
/-- .. and in again, changed -/
theorem Env.inL {ds : List D} {vs vs' : List V} {s0 : Sl} (E : Env K (upd F a (.lst vs)) S H r σ { q with sl := q.sl.set i s0 }) (ha : σ[i]? = some (some (.ref a))) (hF : F a = none) (hi : i < q.sl.length) (rp : RepL K S ds vs') :
    Env K F S (upd H a (.lst vs')) r σ { q with sl := q.sl.set i (.ol ds) } := by
  have E1 := (E.write (.lst vs')).own hF i (.ol ds) (fun ow hw hH => ⟨a, vs', rfl, hw, hH, rp⟩) (by simpa using hi)
  rw [set_self' ha] at E1
  have e : ({ sl := (q.sl.set i s0).set i (.ol ds), w := q.w } : Stt) = { q with sl := q.sl.set i (.ol ds) } := by rw [List.set_set]
  rw [← e]
  exact E1
theorem Env.outK {ks : List Key} {ds : List D} (E : Env K F S H r σ q) (h : q.sl[i]? = some (.od ks ds)) :
    ∃ a vs, σ[i]? = some (some (.ref a)) ∧ H a = some (.dK (ks.zip vs)) ∧ F a = none ∧ ks.length = ds.length ∧ RepL K S ds vs ∧ i < q.sl.length ∧ Env K (upd F a (.dK (ks.zip vs))) S H r σ { q with sl := q.sl.set i .un } := by
  obtain ⟨a, o, ha, hH, hF, E1, ow, hw, hs⟩ := E.disown h fun ow hk => by
    obtain ⟨a, vs, h1, h2, h3, h4⟩ := hk
    exact ⟨a, _, getD_some h1, h2, h3⟩
  obtain ⟨a', vs, h1, h2, h3, h5, h4⟩ := hs
  cases h1
  rw [hH] at h3
  cases h3
  exact ⟨a, vs, ha, hH, hF, h5, h4, (List.getElem?_eq_some_iff.mp h).1, E1⟩
theorem Env.inK {ks : List Key} {ds : List D} {o : HO} {vs' : List V} {s0 : Sl} (E : Env K (upd F a o) S H r σ { q with sl := q.sl.set i s0 }) (ha : σ[i]? = some (some (.ref a))) (hF : F a = none) (hi : i < q.sl.length) (hl : ks.length = ds.length) (rp : RepL K S ds vs') :
    Env K F S (upd H a (.dK (ks.zip vs'))) r σ { q with sl := q.sl.set i (.od ks ds) } := by
  have E1 := (E.write (.dK (ks.zip vs'))).own hF i (.od ks ds) (fun ow hw hH => ⟨a, vs', rfl, hw, hH, hl, rp⟩) (by simpa using hi)
  rw [set_self' ha] at E1
  have e : ({ sl := (q.sl.set i s0).set i (.od ks ds), w := q.w } : Stt) = { q with sl := q.sl.set i (.od ks ds) } := by rw [List.set_set]
  rw [← e]
  exact E1
end
/-! ### a dict's stores -/
def putKs {k : Type} [DecidableEq k] : List k → k → List k
  | [], b => [b]
  | a :: ks, b => if a = b then a :: ks else a :: putKs ks b
def putDs {k : Type} [DecidableEq k] : List k → List D → k → D → List D
  | a :: ks, d :: ds, b, x => if a = b then x :: ds else d :: putDs ks ds b x
  | _, _, _, x => [x]
theorem putKs_len {k : Type} [DecidableEq k] : ∀ (ks : List k) (ds : List D) (b : k) (x : D), ks.length = ds.length → (putKs ks b).length = (putDs ks ds b x).length
  | [], [], b, x, _ => rfl
  | [], _ :: _, _, _, h => by simp at h
  | _ :: _, [], _, _, h => by simp at h
  | a :: ks, d :: ds, b, x, h => by
    unfold putKs putDs
    by_cases e : a = b
    · rw [if_pos e, if_pos e]
      simpa using h
    · rw [if_neg e, if_neg e, List.length_cons, List.length_cons, putKs_len ks ds b x (by simpa using h)]
theorem putK_cons_ne {k : Type} [DecidableEq k] {p : k × V} {l : List (k × V)} {b : k} {v : V} (h : ¬ p.1 = b) : putK (p :: l) b v = p :: putK l b v := by
  unfold putK
  rw [List.any_cons, decide_eq_false h, Bool.false_or]
  by_cases e : (l.any fun kv => decide (kv.1 = b)) = true
  · rw [if_pos e, if_pos e, List.map_cons, if_neg h]
  · rw [if_neg e, if_neg e]
    rfl
/-- a dict's keys stand once -/
theorem putK_cons_eq {k : Type} [DecidableEq k] {a : k} {u v : V} {l : List (k × V)} {b : k} (h : a = b) (hn : b ∉ l.map (·.1)) : putK ((a, u) :: l) b v = (a, v) :: l := by
  subst h
  unfold putK
  rw [List.any_cons, decide_eq_true rfl, Bool.true_or, if_pos rfl, List.map_cons, if_pos rfl]
  congr 1
  have : ∀ kv ∈ l, (if kv.1 = a then (kv.1, v) else kv) = kv := fun kv hk => by
    rw [if_neg]
    intro z
    exact hn (List.mem_map.mpr ⟨kv, hk, z⟩)
  exact (List.map_congr_left this).trans (List.map_id l)
theorem put_rep {k : Type} [DecidableEq k] {K : PySem.W.Frag} {S : Hp} {b : k} {x : D} {v : V} (hx : Rep K S x v) : ∀ {ks : List k} {ds : List D} {vs : List V}, RepL K S ds vs → ks.length = ds.length → ks.Nodup →
    ∃ vs', RepL K S (putDs ks ds b x) vs' ∧ putK (ks.zip vs) b v = (putKs ks b).zip vs'
  | [], [], vs, h, _, _ => by
    rw [len0 h]
    exact ⟨[v], RepL.one hx, rfl⟩
  | [], _ :: _, _, _, h, _ => by simp at h
  | _ :: _, [], _, _, h, _ => by simp at h
  | a :: ks, d :: ds, vs, h, hl, hn => by
    rw [RepL] at h
    obtain ⟨u, t, rfl, h1, h2⟩ := h
    rw [List.zip_cons_cons]
    rw [List.nodup_cons] at hn
    unfold putKs putDs
    by_cases e : a = b
    · rw [if_pos e, if_pos e]
      refine ⟨v :: t, RepL.cons hx h2, ?_⟩
      rw [List.zip_cons_cons]
      refine putK_cons_eq e fun hm => hn.1 ?_
      obtain ⟨kv, h3, h4⟩ := List.mem_map.mp hm
      rw [e, ← h4]
      exact (List.of_mem_zip h3).1
    · rw [if_neg e, if_neg e]
      obtain ⟨vs', h3, h4⟩ := put_rep hx h2 (by simpa using hl) hn.2 (ks := ks)
      refine ⟨u :: vs', RepL.cons h1 h3, ?_⟩
      rw [List.zip_cons_cons, putK_cons_ne (p := (a, u)) e, h4]
section
variable {X : Cx} {W : WX} {e e1 e2 e3 tg : Expr} {es : List Expr} {t t1 t2 t3 : TE} {ta : TA} {f f1 f2 f3 : ME XV} {fa : ME (List XV)} {pos p : Pos} {K : PySem.W.Frag} {fl : ME (List D)}
theorem sof_at {a t : Type} {rep : RP a t} {te : TX t} {f : ME a} {k : a → Stt → Option Fl} {F S H : Hp} {r : List Addr} {σ : L2.St} {q : Stt} {z : Fl} {d : Ends} {Q1 : t → Hp → Prop} (h : Tok rep K W te f) (E : Env K F S H r σ q) (hz : sOf f k q = some z) (P : PostS K W F S r z d)
    (kk : ∀ x v S1 H1 r1 q1, Ex S S1 → Rle r r1 → Env K F S1 H1 r1 σ q1 → rep S1 r1 x v → k x q1 = some z → PostS K W F S1 r1 z d → Q1 v H1) : te σ H Q1 := by
  unfold sOf at hz
  cases e : f q with
  | none => rw [e] at hz; cases hz
  | some z1 =>
    obtain ⟨x, q1⟩ := z1
    rw [e] at hz
    cases x with
    | error c =>
      cases hz
      exact h F S H r σ q _ E e _ fun S1 H1 r1 e1 k1 E1 => P σ S1 H1 r1 e1 k1 E1
    | ok x => exact h F S H r σ q _ E e _ fun v S1 H1 r1 e1 k1 E1 rp => kk x v S1 H1 r1 q1 e1 k1 E1 rp hz (P.mono e1 k1)
def putStep (i : Nat) : XV → XV → Stt → Option Fl
  | .d v, .d k, q => match q.sl[i]? with
    | some (.od ks ds) => (keyD k).bind fun kk => if ks.length < big ∧ ks.Nodup then some (.nx { q with sl := q.sl.set i (.od (putKs ks kk) (putDs ks ds kk v)) }) else none
    | _ => none
  | _, _, _ => none
/-- x[k] = v on a dict of one's own (its keys must stand once) -/
def hasK (i : Nat) (q : Stt) : Bool := match q.sl[i]? with
  | some (.od _ _) => true
  | _ => false
def sPutV (i : Nat) (fk fv : ME XV) : MS := sOf fv fun v q => if hasK i q then sOf fk (fun k => putStep i v k) q else none
theorem is_putV (i : Nat) {x : Str} {p2 pos' : Pos} (hu : X.A.units + 1 < cLine) (hk : IsE X W e1 t1 f1) (hv : IsE X W e2 t2 f2) (hN : X.N[i]? = some x := by rfl) (hvs : Vis X.env.scope x := by first | exact Or.inl rfl | exact Or.inr (Or.inl rfl) | exact Or.inr (Or.inr rfl)) (hd : (x == ("__debug__" : Str)) = false := by decide)
    (hcd : (x == ("__classdict__" : Str)) = false := by decide) (hs : swapsWith e2 (some (.Subscript (.Name x p2) e1 pos')) pos.line X.env = pure false := by rfl) :
    IsS X W (.Assign [.Subscript (.Name x p2) e1 pos'] e2 pos) (sDPut (tVar i) t1 t2) (sPutV i f1 f2) := by
  refine ⟨ps_dput hu (pe_var hN hvs hd hcd) hk.pe hv.pe hs, ?_⟩
  intro F S H r σ q z E hz d P
  refine sof_at hv.ok E hz P fun xv v S1 H1 r1 q1 ex1 k1 E1 rv hz P => ?_
  have hz' : (if hasK i q1 then sOf f1 (fun k => putStep i xv k) q1 else none) = some z := hz
  by_cases hk1 : hasK i q1 = true
  · rw [if_pos hk1] at hz'
    unfold hasK at hk1
    cases es : q1.sl[i]? with
    | none => rw [es] at hk1; cases hk1
    | some s =>
      rw [es] at hk1
      cases s with
      | od ks0 ds0 =>
        obtain ⟨a0, vs0, ha0, _⟩ := E1.outK es
        refine ⟨.ref a0, ha0, ?_⟩
        refine sof_at hk.ok E1 hz' P fun xk y S2 H2 r2 q2 ex2 k2 E2 rk hz P => ?_
        cases xv with
        | h n => cases hz
        | d vd =>
          cases xk with
          | h n => cases hz
          | d kd =>
            unfold putStep at hz
            cases es1 : q2.sl[i]? with
            | none => simp only [es1] at hz; cases hz
            | some s1 =>
              cases s1 with
              | od ks ds =>
                simp only [es1] at hz
                cases ek : keyD kd with
                | none => rw [ek] at hz; cases hz
                | some kk =>
                  rw [ek] at hz
                  obtain ⟨hc, ez⟩ := ifs (show (if ks.length < big ∧ ks.Nodup then some (Fl.nx { q2 with sl := q2.sl.set i (.od (putKs ks kk) (putDs ks ds kk vd)) }) else none) = some z from hz)
                  subst ez
                  obtain ⟨a, vs, ha, hH, hF, hl, rp, hi, E3⟩ := E2.outK es1
                  rw [ha0] at ha
                  cases ha
                  have rv1 : Rep X.K S2 vd v := Rep.mono ex2 _ _ rv
                  obtain ⟨vs', rp', ez⟩ := put_rep (b := kk) rv1 rp hl hc.2
                  refine ⟨a0, upd H2 a0 (.dK ((putKs ks kk).zip vs')), rfl, ?_, ?_⟩
                  · rw [← ez, keyD_of (H := H2) ek rk]
                    exact DPut.k hH (by rw [List.length_zip, ← rp.length, ← hl, Nat.min_self]; exact Nat.lt_of_lt_of_le hc.1 (by decide))
                  · exact P σ S2 _ r2 (Ex.refl _) (Rle.refl _) (E3.inK ha0 hF hi (putKs_len ks ds kk vd hl) rp')
              | _ => simp only [es1] at hz; cases hz
      | _ => cases hk1
  · rw [if_neg hk1] at hz'
    cases hz'
/-- x.get(k, e), x a name -/
def eGetV (i : Nat) (fk fx : ME XV) : ME XV := fun q => match peek q i with
  | some (.dic _ _) => bnd fk (fun k => bnd fx fun x q1 => match k, x, peek q1 i with
    | .d k, .d x, some c => (dgetD c k).map fun o => (.ok (.d (o.getD x)), q1)
    | _, _, _ => none) q
  | _ => none
theorem is_getV (i : Nat) {x : Str} {p2 apos : Pos} (hu : X.A.units + 1 < cLine) (hk : IsE X W e1 t1 f1) (hx : IsE X W e2 t2 f2) (m : M2 X (.Name x p2) "get" apos e1 e2 pos) (hN : X.N[i]? = some x := by rfl) (hvs : Vis X.env.scope x := by first | exact Or.inl rfl | exact Or.inr (Or.inl rfl) | exact Or.inr (Or.inr rfl)) (hd : (x == ("__debug__" : Str)) = false := by decide)
    (hcd : (x == ("__classdict__" : Str)) = false := by decide) :
    IsE X W (.Call (.Attribute (.Name x p2) "get" apos) [e1, e2] [] pos) (tDGet2 (tVar i) t1 t2) (eGetV i f1 f2) := by
  refine ⟨pe_dget2 hu (pe_var hN hvs hd hcd) hk.pe hx.pe m, fun F S H r σ q z E hz Q P => ?_⟩
  unfold eGetV at hz
  cases e0 : Den.peek q i with
  | none => rw [e0] at hz; cases hz
  | some d0 =>
    rw [e0] at hz
    cases d0 with
    | dic ks0 ds0 =>
      obtain ⟨v0, hv0, a0, vs0, ev, h1, h2, h3⟩ := E.peek e0
      subst ev
      refine ⟨.ref a0, hv0, a0, rfl, .inl ⟨_, .inl h1⟩, ?_⟩
      refine run_at (rep2 := RX X.K) hk.ok E hz P fun y w S1 H1 r1 q1 ex1 k1 E1 ry hz P => ?_
      refine run_at (rep2 := RX X.K) hx.ok E1 hz P fun xx u S2 H2 r2 q2 ex2 k2 E2 rx hz P => ?_
      cases y with
      | h n => cases hz
      | d y =>
        cases xx with
        | h n => cases hz
        | d xx =>
          cases e1 : Den.peek q2 i with
          | none => simp only [e1] at hz; cases hz
          | some c =>
            simp only [e1] at hz
            cases e3 : dgetD c y with
            | none => rw [e3] at hz; cases hz
            | some o =>
              rw [e3] at hz
              cases hz
              obtain ⟨v1, hv1, rc⟩ := E2.peek e1
              rw [hv0] at hv1
              cases hv1
              obtain ⟨a, ov, ea, g, _, orp⟩ := dget_of E2.sub e3 rc (Rep.toH E2.sub (Rep.mono ex2 _ _ ry))
              cases ea
              refine ⟨ov, g, ?_⟩
              cases o with
              | some dv =>
                cases ov with
                | none => exact False.elim orp
                | some v' => exact P v' S2 H2 r2 (Ex.refl _) (Rle.refl _) E2 orp
              | none =>
                cases ov with
                | some v' => exact False.elim orp
                | none => exact P u S2 H2 r2 (Ex.refl _) (Rle.refl _) E2 rx
    | _ => cases hz
/-! ### methods of lists of one's own -/
def RMok (K : PySem.W.Frag) (rm : V → List V → Hp → VK → Prop) (g : List D → D → Option (D × List D)) : Prop :=
  ∀ S H a vs ds d v x ds', Ex S H → H a = some (.lst vs) → S a = none → RepL K S ds vs → Rep K S d v → g ds d = some (x, ds') → ∀ Q : VK, (∀ u vs', Rep K S x u → RepL K S ds' vs' → Q u (upd H a (.lst vs'))) → rm (.ref a) [v] H Q
def eM1V (g : List D → D → Option (D × List D)) (i : Nat) (f1 : ME XV) : ME XV := fun q => match q.sl[i]? with
  | some (.ol _) => bnd f1 (fun x q1 => match x, q1.sl[i]? with
    | .d x, some (.ol ds) => (g ds x).map fun y => (.ok (.d y.1), { q1 with sl := q1.sl.set i (.ol y.2) })
    | _, _ => none) q
  | _ => none
theorem tok_m1 {rm : V → List V → Hp → VK → Prop} {g : List D → D → Option (D × List D)} {i : Nat} (hr : RMok K rm g) (h1 : Tok (RX K) K W t1 f1) : Tok (RX K) K W (tBM K "list" rm (tVar i) (tCons t1 tNil)) (eM1V g i f1) := by
  intro F S H r σ q z E hz Q P
  unfold eM1V at hz
  cases es : q.sl[i]? with
  | none => rw [es] at hz; cases hz
  | some s =>
    rw [es] at hz
    cases s with
    | ol ds0 =>
      obtain ⟨a0, vs0, ha0, hH0, _⟩ := E.outL es
      refine ⟨.ref a0, ha0, .inl ⟨rfl, _, SqL.of hH0⟩, ?_⟩
      show t1 σ H (fun x H1 => tNil σ H1 fun xs H2 => rm (.ref a0) (x :: xs) H2 Q)
      refine run_at (rep2 := RX K) h1 E hz P fun y w S1 H1 r1 q1 ex1 k1 E1 ry hz P => ?_
      cases y with
      | h n => cases hz
      | d y =>
        cases es1 : q1.sl[i]? with
        | none => simp only [es1] at hz; cases hz
        | some s1 =>
          cases s1 with
          | ol ds =>
            simp only [es1] at hz
            cases eg : g ds y with
            | none => rw [eg] at hz; cases hz
            | some yy =>
              obtain ⟨x, ds'⟩ := yy
              rw [eg] at hz
              cases hz
              obtain ⟨a, vs, ha, hH, hF, rp, hi, E2⟩ := E1.outL es1
              rw [ha0] at ha
              cases ha
              have hS : S1 a0 = none := by
                obtain ⟨ow, e2⟩ := E2
                exact (e2.fr a0 _ upd_same).2
              exact hr S1 H1 a0 vs ds y w x ds' E1.sub hH hS rp ry eg _ fun u vs' ru rp' => P u S1 _ r1 (Ex.refl _) (Rle.refl _) (E2.inL ha0 hF hi rp') ru
          | _ => simp only [es1] at hz; cases hz
    | _ => cases hz
def gApp : List D → D → Option (D × List D) := fun ds d => if ds.length < big then some (.non, ds ++ [d]) else none
theorem rm_app : RMok K rAppend gApp := by
  intro S H a vs ds d v x ds' E hH hS rp rd hg Q k
  obtain ⟨hl, e⟩ := ifs hg
  cases e
  exact ⟨a, vs, v, rfl, rfl, hH, by rw [← rp.length]; exact Nat.lt_of_lt_of_le hl (by decide), k _ _ rp_non (rp.append (RepL.one rd))⟩
def gExt : List D → D → Option (D × List D)
  | ds, .lst es => if ds.length + es.length ≤ big then some (.non, ds ++ es) else none
  | _, _ => none
theorem rm_ext : RMok K rExtend gExt := by
  intro S H a vs ds d v x ds' E hH hS rp rd hg Q k
  unfold gExt at hg
  split at hg
  · obtain ⟨hl, e⟩ := ifs hg
    cases e
    rw [Rep] at rd
    obtain ⟨b, us, rfl, h1, h2⟩ := rd
    exact ⟨a, b, vs, us, rfl, rfl, hH, E _ _ h1, by rw [← rp.length, ← h2.length]; exact big_line hl, k _ _ rp_non (rp.append h2)⟩
  · cases hg
def gPopAt : List D → D → Option (D × List D)
  | ds, .int i => if 0 ≤ i ∧ i < ds.length ∧ ds.length ≤ big then (ds[i.toNat]?).map fun d => (d, ds.eraseIdx i.toNat) else none
  | _, _ => none
theorem rm_popAt : RMok K rPopAt gPopAt := by
  intro S H a vs ds d v x ds' E hH hS rp rd hg Q k
  unfold gPopAt at hg
  split at hg
  · rename_i i
    by_cases c : 0 ≤ i ∧ i < ds.length ∧ ds.length ≤ big
    · rw [if_pos c] at hg
      cases e : ds[i.toNat]? with
      | none => rw [e] at hg; cases hg
      | some dd =>
        rw [e] at hg
        cases hg
        obtain ⟨u, h1, h2⟩ := rp.get e
        rw [Rep] at rd
        have hb : ds.length ≤ 100000 := c.2.2
        refine ⟨a, vs, i, i.toNat, u, rfl, by rw [rd], hH, by omega, by omega, ?_, h1, k _ _ h2 (rp.eraseIdx _)⟩
        rw [← rp.length]
        exact seqIndex_of c.1 c.2.1
    · rw [if_neg c] at hg
      cases hg
  · cases hg
theorem is_appV (i : Nat) {x : Str} {p2 apos : Pos} (h1 : IsE X W e1 t1 f1) (hN : X.N[i]? = some x := by rfl) (hvs : Vis X.env.scope x := by first | exact Or.inl rfl | exact Or.inr (Or.inl rfl) | exact Or.inr (Or.inr rfl)) (hd : (x == ("__debug__" : Str)) = false := by decide)
    (hcd : (x == ("__classdict__" : Str)) = false := by decide) (hbase : attributeBase (.Name x p2) "append" X.env (eval (.Name x p2) X.env) = eval (.Name x p2) X.env := by rfl)
    (hfew : ((backTo pos (starEach (e1 :: []) X.env)).all (fun x => !x.1) && (backToKw pos (keywordEach [] X.env)).all (fun x => x.1.isSome)
      && decide ((e1 :: []).length + ([] : List Keyword).length + (if ([] : List Keyword).isEmpty then 0 else 1) < 30)) = true := by rfl)
    (hline : (apos.endLine == pos.line) = true := by rfl) (hs : starEach (e1 :: []) X.env = (false, eval e1 X.env) :: starEach [] X.env := by rfl) (hplain : (backTo pos (starEach [] X.env)).any (·.1) = false := by rfl) :
    IsE X W (.Call (.Attribute (.Name x p2) "append" apos) [e1] [] pos) (tBM X.K "list" rAppend (tVar i) (tCons t1 tNil)) (eM1V gApp i f1) :=
  ⟨pe_bm PySem.F.plainAttrs_list PySem.F.slot_list_append PySem.F.type_list_append mt_append (pe_var hN hvs hd hcd) (pa_cons h1.pe pa_nil hs) hbase hfew hline hs hplain, tok_m1 rm_app h1.ok⟩
theorem is_extV (i : Nat) {x : Str} {p2 apos : Pos} (h1 : IsE X W e1 t1 f1) (hN : X.N[i]? = some x := by rfl) (hvs : Vis X.env.scope x := by first | exact Or.inl rfl | exact Or.inr (Or.inl rfl) | exact Or.inr (Or.inr rfl)) (hd : (x == ("__debug__" : Str)) = false := by decide)
    (hcd : (x == ("__classdict__" : Str)) = false := by decide) (hbase : attributeBase (.Name x p2) "extend" X.env (eval (.Name x p2) X.env) = eval (.Name x p2) X.env := by rfl)
    (hfew : ((backTo pos (starEach (e1 :: []) X.env)).all (fun x => !x.1) && (backToKw pos (keywordEach [] X.env)).all (fun x => x.1.isSome)
      && decide ((e1 :: []).length + ([] : List Keyword).length + (if ([] : List Keyword).isEmpty then 0 else 1) < 30)) = true := by rfl)
    (hline : (apos.endLine == pos.line) = true := by rfl) (hs : starEach (e1 :: []) X.env = (false, eval e1 X.env) :: starEach [] X.env := by rfl) (hplain : (backTo pos (starEach [] X.env)).any (·.1) = false := by rfl) :
    IsE X W (.Call (.Attribute (.Name x p2) "extend" apos) [e1] [] pos) (tBM X.K "list" rExtend (tVar i) (tCons t1 tNil)) (eM1V gExt i f1) :=
  ⟨pe_bm PySem.F.plainAttrs_list PySem.F.slot_list_extend PySem.F.type_list_extend mt_extend (pe_var hN hvs hd hcd) (pa_cons h1.pe pa_nil hs) hbase hfew hline hs hplain, tok_m1 rm_ext h1.ok⟩
theorem is_popV (i : Nat) {x : Str} {p2 apos : Pos} (h1 : IsE X W e1 t1 f1) (hN : X.N[i]? = some x := by rfl) (hvs : Vis X.env.scope x := by first | exact Or.inl rfl | exact Or.inr (Or.inl rfl) | exact Or.inr (Or.inr rfl)) (hd : (x == ("__debug__" : Str)) = false := by decide)
    (hcd : (x == ("__classdict__" : Str)) = false := by decide) (hbase : attributeBase (.Name x p2) "pop" X.env (eval (.Name x p2) X.env) = eval (.Name x p2) X.env := by rfl)
    (hfew : ((backTo pos (starEach (e1 :: []) X.env)).all (fun x => !x.1) && (backToKw pos (keywordEach [] X.env)).all (fun x => x.1.isSome)
      && decide ((e1 :: []).length + ([] : List Keyword).length + (if ([] : List Keyword).isEmpty then 0 else 1) < 30)) = true := by rfl)
    (hline : (apos.endLine == pos.line) = true := by rfl) (hs : starEach (e1 :: []) X.env = (false, eval e1 X.env) :: starEach [] X.env := by rfl) (hplain : (backTo pos (starEach [] X.env)).any (·.1) = false := by rfl) :
    IsE X W (.Call (.Attribute (.Name x p2) "pop" apos) [e1] [] pos) (tBM X.K "list" rPopAt (tVar i) (tCons t1 tNil)) (eM1V gPopAt i f1) :=
  ⟨pe_bm PySem.F.plainAttrs_list PySem.F.slot_list_pop PySem.F.type_list_pop mt_popAt (pe_var hN hvs hd hcd) (pa_cons h1.pe pa_nil hs) hbase hfew hline hs hplain, tok_m1 rm_popAt h1.ok⟩
/-! ### a list that the world holds -/
def eNewW (fa : ME (List XV)) : ME XV := bnd fa fun xs q => if xs.length ≤ big then some (.ok (.h q.w.length), { q with w := q.w ++ [.lst xs] }) else none
theorem Env.newW {F S H : Hp} {r : List Addr} {σ : L2.St} {q : Stt} {p : Addr} {xs : List XV} {vs : List V} (E : Env K F S H r σ q) (hp : H p = none) (rx : XRepL K S r xs vs) :
    Env K F S (upd H p (.lst vs)) (r ++ [p]) σ { q with w := q.w ++ [.lst xs] } ∧ Rle r (r ++ [p]) ∧ (r ++ [p])[q.w.length]? = some p := by
  have hF := E.newF hp
  have hS := E.newS hp
  have rle : Rle r (r ++ [p]) := fun n a h => by
    rw [List.getElem?_append_left (List.getElem?_eq_some_iff.mp h).1]
    exact h
  obtain ⟨ow, e⟩ := E
  have hat : (r ++ [p])[q.w.length]? = some p := by
    rw [← e.rlen]
    simp
  have ne : ∀ a x, ow a = some x → a ≠ p := fun a x k z => by
    obtain ⟨_, _, o, k3⟩ := e.ows a x k
    rw [z, hp] at k3
    cases k3
  have keep : ∀ a x, ow a = some x → (fun b => if b = p then some (Sum.inr q.w.length) else ow b) a = some x := fun a x k => by
    show (if a = p then _ else ow a) = _
    rw [if_neg (ne a x k)]
    exact k
  refine ⟨⟨fun b => if b = p then some (.inr q.w.length) else ow b, fun a o k => ?_, fun a o k => ?_, fun a x k => ?_, e.len, fun i s k => ?_, by simp [e.rlen], fun n o k => ?_, fun a us k => ?_⟩, rle, hat⟩
  · rw [upd_ne (ne_of_none k hS)]
    exact e.sub a o k
  · rw [upd_ne (ne_of_none k hF)]
    exact e.fr a o k
  · have k' : (if a = p then some (Sum.inr q.w.length) else ow a) = some x := k
    by_cases z : a = p
    · subst z
      exact ⟨hS, hF, _, upd_same⟩
    · rw [if_neg z] at k'
      obtain ⟨k1, k2, k3⟩ := e.ows a x k'
      exact ⟨k1, k2, by rw [upd_ne z]; exact k3⟩
  · exact (e.slot i s k).mono (Ex.refl _) rle fun a m => ⟨keep a _ m, upd_ne (ne a _ m)⟩
  · have k' : (q.w ++ [.lst xs])[n]? = some o := k
    by_cases hn : n < q.w.length
    · rw [List.getElem?_append_left hn] at k'
      exact (e.wob n o k').mono (Ex.refl _) rle fun a m => ⟨keep a _ m, upd_ne (ne a _ m)⟩
    · rw [List.getElem?_append_right (by omega)] at k'
      have en : n = q.w.length := by
        have h1 := (List.getElem?_eq_some_iff.mp k').1
        simp at h1
        omega
      subst en
      rw [Nat.sub_self] at k'
      have eo : WO.lst xs = o := by simpa using k'
      subst eo
      exact ⟨p, vs, hat, by show (if p = p then _ else _) = _; rw [if_pos rfl], upd_same, rx.mono (Ex.refl _) rle⟩
  · by_cases z : a = p
    · subst z
      rw [upd_same] at k
      cases k
    · rw [upd_ne z] at k
      obtain ⟨n1, n2⟩ := e.nt a us k
      exact ⟨n1, by show (if a = p then _ else ow a) = _; rw [if_neg z]; exact n2⟩
theorem is_lstW (h : IsA X W es ta fa) : IsE X W (.List es pos) (tLst ta) (eNewW fa) := by
  refine ⟨pe_lst h.pa, ?_⟩
  refine Tok.bind (t2 := fun (xs : List V) (σ : L2.St) (H : Hp) (Q : VK) => xs.length ≤ sizeLine ∧ ∀ p, H p = none → Q (V.ref p) (upd H p (.lst xs))) h.ok fun x v F S H r σ q z E rx hz Q P => ?_
  obtain ⟨hl, ez⟩ := ifs (show (if x.length ≤ big then some ((.ok (.h q.w.length), { q with w := q.w ++ [.lst x] }) : Rs XV) else none) = some z from hz)
  subst ez
  refine ⟨by rw [← rx.length]; exact big_line hl, fun p hp => ?_⟩
  obtain ⟨E2, k, hat⟩ := E.newW hp rx
  exact P (.ref p) S _ _ (Ex.refl _) k E2 ⟨p, hat, rfl⟩
/-- x[e1] = e2, x a name that holds a list of the world -/
def setStep : XV → XV → XV → Stt → Option Fl
  | .h n, .d (.int j), v, q => match q.w[n]? with
    | some (.lst xs) => (ixN xs.length j).map fun m => .nx { q with w := q.w.set n (.lst (xs.set m v)) }
    | _ => none
  | _, _, _, _ => none
def sSetW (i : Nat) (fk fv : ME XV) : MS := sOf fv fun v => sOf (eVar i) fun o => sOf fk fun k => setStep o k v
theorem Env.setW {F S H : Hp} {r : List Addr} {σ : L2.St} {q : Stt} {n : Nat} {xs xs' : List XV} {vs' : List V} (E : Env K F S H r σ q) (hw : q.w[n]? = some (.lst xs)) (rx : XRepL K S r xs' vs') {a : Addr} (ha : r[n]? = some a) :
    Env K F S (upd H a (.lst vs')) r σ { q with w := q.w.set n (.lst xs') } := by
  obtain ⟨ow, e⟩ := E
  obtain ⟨a', vs, g1, g2, g3, g4⟩ := e.wob n _ hw
  rw [ha] at g1
  cases g1
  obtain ⟨hS, hF, _⟩ := e.ows a _ g2
  have ne : ∀ b x, ow b = some x → x ≠ .inr n → b ≠ a := fun b x k z y => by
    rw [y, g2] at k
    exact z (Option.some.inj k).symm
  refine ⟨ow, fun b o k => ?_, fun b o k => ?_, fun b x k => ?_, e.len, fun i s k => ?_, by simp [e.rlen], fun m o k => ?_, fun b us k => ?_⟩
  · rw [upd_ne (ne_of_none k hS)]
    exact e.sub b o k
  · rw [upd_ne (ne_of_none k hF)]
    exact e.fr b o k
  · obtain ⟨k1, k2, k3⟩ := e.ows b x k
    refine ⟨k1, k2, ?_⟩
    by_cases z : b = a
    · subst z
      exact ⟨_, upd_same⟩
    · rw [upd_ne z]
      exact k3
  · exact (e.slot i s k).mono (Ex.refl _) (Rle.refl _) fun b m => ⟨m, upd_ne (ne b _ m (fun z => nomatch z))⟩
  · have k' : (q.w.set n (.lst xs'))[m]? = some o := k
    by_cases hm : m = n
    · subst hm
      have hl := (List.getElem?_eq_some_iff.mp hw).1
      rw [List.getElem?_set_self hl] at k'
      cases k'
      exact ⟨a, vs', ha, g2, upd_same, rx⟩
    · rw [List.getElem?_set_ne (Ne.symm hm)] at k'
      exact (e.wob m o k').mono (Ex.refl _) (Rle.refl _) fun b mm => ⟨mm, upd_ne (ne b _ mm (fun z => by cases z; exact hm rfl))⟩
  · by_cases z : b = a
    · subst z
      rw [upd_same] at k
      cases k
    · rw [upd_ne z] at k
      exact e.nt b us k
theorem is_setW (i : Nat) {x : Str} {p2 pos' : Pos} (hk : IsE X W e1 t1 f1) (hv : IsE X W e2 t2 f2) (hN : X.N[i]? = some x := by rfl) (hvs : Vis X.env.scope x := by first | exact Or.inl rfl | exact Or.inr (Or.inl rfl) | exact Or.inr (Or.inr rfl)) (hd : (x == ("__debug__" : Str)) = false := by decide)
    (hcd : (x == ("__classdict__" : Str)) = false := by decide) (ha : ∀ v, assign (.Subscript (.Name x p2) e1 pos') X.env v = (do
      let ov ← holding [v] (eval (.Name x p2) X.env)
      let iv ← holding [v, ov] (eval e1 X.env)
      standAt pos'
      holding [v, ov, iv] (setItem ov iv v)
      release [v, ov, iv] []) := by intro _; rfl) (hs : swapsWithSole [.Subscript (.Name x p2) e1 pos'] e2 pos.line X.env = pure false := by rfl) (hw : swappedStores [.Subscript (.Name x p2) e1 pos'] e2 X.env = pure none := by rfl)
    (h1 : (assignEach [.Subscript (.Name x p2) e1 pos'] X.env).map (·.2) = [assign (.Subscript (.Name x p2) e1 pos') X.env] := by rfl) :
    IsS X W (.Assign [.Subscript (.Name x p2) e1 pos'] e2 pos) (tAsg t2 (L2.gSub (tVar i) t1 rSetL)) (sSetW i f1 f2) := by
  refine ⟨ps_asg hv.pe (pg_sub (pe_var hN hvs hd hcd) hk.pe set_list ha) hs hw h1, ?_⟩
  intro F S H r σ q z E hz d P
  refine sof_at hv.ok E hz P fun xv v S1 H1 r1 q1 ex1 k1 E1 rv hz P => ?_
  show tVar i σ H1 (fun o H2 => t1 σ H2 fun y H3 => rSetL o y v H3 fun H4 => d.nx σ H4)
  refine sof_at (tok_var (K := X.K) (W := W) i) E1 hz P fun xo o S2 H2 r2 q2 ex2 k2 E2 ro hz P => ?_
  refine sof_at hk.ok E2 hz P fun xk y S3 H3 r3 q3 ex3 k3 E3 rk hz P => ?_
  cases xo with
  | d _ => cases hz
  | h n =>
    cases xk with
    | h _ => cases hz
    | d xkd =>
      cases xkd with
      | int j =>
        unfold setStep at hz
        cases ew : q3.w[n]? with
        | none => simp only [ew] at hz; cases hz
        | some wo =>
          cases wo with
          | dead => simp only [ew] at hz; cases hz
          | ins _ _ _ => simp only [ew] at hz; cases hz
          | lst xs =>
            simp only [ew] at hz
            cases ei : ixN xs.length j with
            | none => rw [ei] at hz; cases hz
            | some m =>
              rw [ei] at hz
              cases hz
              obtain ⟨ow, e0⟩ := id E3
              obtain ⟨a, vs, g1, g2, g3, g4⟩ := e0.wob n _ ew
              obtain ⟨a', k4, k5⟩ := ro
              have k6 := k3 _ _ k4
              rw [g1] at k6
              cases k6
              have rv3 := rv.mono (ex2.trans ex3) (k2.trans k3)
              refine ⟨a, vs, j, m, k5, xr_int rk, g3, by rw [← g4.length]; exact ei, ?_⟩
              exact P σ S3 _ r3 (Ex.refl _) (Rle.refl _) (E3.setW ew (g4.set m rv3) g1)
      | _ => cases hz
end
end Den

namespace Den
open PySem PySem.Spec PyProof.Rows L2
open Evl (Ex)
section
variable {X : Cx} {W : WX} {e e1 e2 e3 tg : Expr} {es : List Expr} {t t1 t2 t3 : TE} {ta : TA} {f f1 f2 f3 : ME XV} {fa : ME (List XV)} {pos p : Pos} {K : PySem.W.Frag} {fl : ME (List D)} {tt : TT} {gt : ME Bool} {ts : TS} {g : MS}
/-! ### x += e (ints) -/
def augStep (i : Nat) (op : Int → Int → Int) (a : Int) : XV → Stt → Option Fl
  | .d (.int b), q => if i < q.sl.length then some (.nx { q with sl := q.sl.set i (.dat (.int (op a b))) }) else none
  | _, _ => none
def sAug (i : Nat) (op : Int → Int → Int) (f : ME XV) : MS := fun q => match q.sl[i]? with
  | some (.dat (.int a)) => sOf f (augStep i op a) q
  | _ => none
theorem is_aug {op : Int → Int → Int} {o : Operator} (ip : PIp X o (ipI op)) (i : Nat) {x : Str} {pos' : Pos} (hN : X.N.Nodup) (he : IsE X W e t f) (hi : X.N[i]? = some x := by rfl) (hx : Loc X.env.scope x := by first | exact .inl rfl | exact .inr rfl) (hf : X.fn x = true ∨ X.env.scope.names.lookup x = some .local := by first | exact .inl rfl | exact .inr rfl | assumption) :
    IsS X W (.AugAssign (.Name x pos') o e pos) (tAug i t (ipI op)) (sAug i op f) := by
  refine ⟨ps_aug hN hi hx he.pe ip hf, fun F S H r σ q z E hz d P => ?_⟩
  unfold sAug at hz
  cases es : q.sl[i]? with
  | none => simp only [es] at hz; cases hz
  | some s =>
    cases s with
    | dat dd =>
      cases dd with
      | int a =>
        simp only [es] at hz
        obtain ⟨ow, e0⟩ := id E
        obtain ⟨v, h1, h2⟩ := e0.slot i _ es
        rw [Rep] at h2
        subst h2
        refine ⟨.int a, getD_some h1, sof_at he.ok E hz P fun x v S1 H1 r1 q1 ex1 k1 E1 rx hz P => ?_⟩
        cases x with
        | h n => cases hz
        | d x =>
          cases x with
          | int b =>
            obtain ⟨hl, ez⟩ := ifs (show (if i < q1.sl.length then some (Fl.nx { q1 with sl := q1.sl.set i (.dat (.int (op a b))) }) else none) = some z from hz)
            subst ez
            exact ⟨a, b, rfl, xr_int rx, P _ S1 H1 r1 (Ex.refl _) (Rle.refl _) (E1.putD i (show Rep X.K S1 (.int (op a b)) (.int (op a b)) from rp_int) hl)⟩
          | _ => cases hz
      | _ => simp only [es] at hz; cases hz
    | _ => simp only [es] at hz; cases hz
/-! ### a, b = e1, e2 -/
def parStep (i j : Nat) : List XV → Stt → Option Fl
  | [x, y], q => if i < q.sl.length ∧ j < q.sl.length ∧ i ≠ j then some (.nx { q with sl := (q.sl.set i (toSl x)).set j (toSl y) }) else none
  | _, _ => none
theorem is_par (i j : Nat) {x y : Str} {a b : Expr} {px py pt : Pos} {kt k2 pt2} (hN : X.N.Nodup) (ha : IsA X W [a, b] ta fa) (hi : X.N[i]? = some x := by rfl) (hj : X.N[j]? = some y := by rfl) (hij : i ≠ j := by decide)
    (hx : X.env.scope.names.lookup x = some .local := by rfl) (hy : X.env.scope.names.lookup y = some .local := by rfl) (hc : X.calm = true := by rfl)
    (hw : swappedStores [.Tuple [.Name x px, .Name y py] kt pt] (.Tuple [a, b] k2 pt2) X.env = pure (some [x, y]) := by rfl)
    (hs : swapsWithSole [.Tuple [.Name x px, .Name y py] kt pt] (.Tuple [a, b] k2 pt2) pos.line X.env = pure false := by rfl) :
    IsS X W (.Assign [.Tuple [.Name x px, .Name y py] kt pt] (.Tuple [a, b] k2 pt2) pos) (tPar i j ta) (sOf fa (parStep i j)) := by
  refine ⟨ps_par hc hN hi hj hij hx hy ha.pa hw hs, ?_⟩
  refine TokS.of (t2 := fun vs D σ H => ∃ v w, vs = [v, w] ∧ D.nx ((σ.set i (some v)).set j (some w)) H) ha.ok fun xs vs F S H r σ q z E rx hz d P => ?_
  unfold parStep at hz
  split at hz
  · rename_i x y
    obtain ⟨hl, ez⟩ := ifs hz
    subst ez
    obtain ⟨v, t1, rfl, k1, w, t2, rfl, k2, k3⟩ := rx
    have e2 : t2 = [] := k3
    subst e2
    have E1 := E.putX i k1 hl.1
    have E2 := E1.putX j k2 (by simpa using hl.2.1)
    refine ⟨v, w, rfl, P _ S H r (Ex.refl _) (Rle.refl _) ?_⟩
    cases x <;> cases y <;> exact E2
  · cases hz
/-! ### comprehensions -/
structure IsTs (X : Cx) (W : WX) (ifs : List Expr) (t : TT) (g : ME Bool) : Prop where
  pts : PTs X ifs t
  ok : Tok RB X.K W t g
theorem is_tsnil : IsTs X W [] tYes (ret true) := ⟨pts_nil, fun F S H r σ q z E hz Q P => by
  cases hz
  exact P true S H r (Ex.refl _) (Rle.refl _) E rfl⟩
theorem is_tsone {c : Expr} (h : IsT X W c tt gt) : IsTs X W [c] tt gt := ⟨pts_one h.pt, h.ok⟩
theorem is_lc {elt tgt iter : Expr} {ifs : List Expr} {scope : Scope} {own : List (Str × Nat)} {wi : TI} {tg : TG} {js : List Nat} {a : XV → Stt → Option Stt} {fi : ME (List D)} {te : TE} {fe : ME XV} (hN : X.N.Nodup) (hi : IsI X W tgt iter wi fi) (ok : BlkOk X.N X.env.scope scope own)
    (hg : ∀ (s : Shared) (H : Hp) (C : Addr) (cl : List (Str × Addr)) (fp : List Addr), IsG (X.blk s H scope (compEnvC scope cl C X.env) fp) tgt tg js a) (ht : ∀ (s : Shared) (H : Hp) (C : Addr) (cl : List (Str × Addr)) (fp : List Addr), IsTs (X.blk s H scope (compEnvC scope cl C X.env) fp) W0 ifs tt gt)
    (he : ∀ (s : Shared) (H : Hp) (C : Addr) (cl : List (Str × Addr)) (fp : List Addr), IsE (X.blk s H scope (compEnvC scope cl C X.env) fp) W0 elt te fe) (hjs : ∀ j ∈ js, j ∈ own.map (·.2) := by decide) (hc : X.calm = true := by rfl) (hs : ∀ x, foldedSetIterable iter X.env x = pure x := by intro _; rfl) :
    IsL X W (.ListComp elt [⟨tgt, iter, ifs, 0⟩] scope pos) (tLc wi tg tt te (own.map (·.2))) (lLc (own.map (·.2)) fi a gt fe) :=
  ⟨pe_lc hc hN hi.pi ok (fun s H C cl fp => (hg s H C cl fp).pg) (fun s H C cl fp => (ht s H C cl fp).pts) (fun s H C cl fp => (he s H C cl fp).pe) hs,
    tokL_lc hi.ok (hg ⟨⟨#[], {}⟩, #[], {}, 0, default⟩ (fun _ => none) 0 [] []).ok (ht ⟨⟨#[], {}⟩, #[], {}, 0, default⟩ (fun _ => none) 0 [] []).ok (he ⟨⟨#[], {}⟩, #[], {}, 0, default⟩ (fun _ => none) 0 [] []).ok hjs⟩
end
end Den

namespace Den
open PySem PySem.Spec PyProof.Rows L2
open Evl (Ex)
section
variable {X : Cx} {W : WX} {e e1 e2 e3 tg : Expr} {es : List Expr} {t t1 t2 t3 : TE} {ta : TA} {f f1 f2 f3 : ME XV} {fa : ME (List XV)} {pos p : Pos} {K : PySem.W.Frag} {fl : ME (List D)} {tt : TT} {gt : ME Bool} {ts : TS} {g : MS}
/-- name = [..] on one line, the name a plain local: the name's own | data -/
theorem is_setLc {i : Nat} {y : Str} {py : Pos} {elt tgt iter : Expr} {ifs : List Expr} {scope : Scope} {own : List (Str × Nat)} {spos : Pos} {wi : TI} {tg : TG} {js : List Nat} {a : XV → Stt → Option Stt} {fi : ME (List D)} {te : TE} {fe : ME XV} (hN : X.N.Nodup) (hi : IsI X W tgt iter wi fi) (ok : BlkOk X.N X.env.scope scope own)
    (hg : ∀ (s : Shared) (H : Hp) (C : Addr) (cl : List (Str × Addr)) (fp : List Addr), IsG (X.blk s H scope (compEnvC scope cl C X.env) fp) tgt tg js a) (ht : ∀ (s : Shared) (H : Hp) (C : Addr) (cl : List (Str × Addr)) (fp : List Addr), IsTs (X.blk s H scope (compEnvC scope cl C X.env) fp) W0 ifs tt gt)
    (he : ∀ (s : Shared) (H : Hp) (C : Addr) (cl : List (Str × Addr)) (fp : List Addr), IsE (X.blk s H scope (compEnvC scope cl C X.env) fp) W0 elt te fe) (hsw : swapsWith (.ListComp elt [⟨tgt, iter, ifs, 0⟩] scope pos) (some (.Name y py)) spos.line X.env = pure true := by exact sw_true rfl rfl rfl (by decide +kernel))
    (hy : X.N[i]? = some y := by rfl) (hyl : X.env.scope.names.lookup y = some .local := by rfl) (hjs : ∀ j ∈ js, j ∈ own.map (·.2) := by decide) (hc : X.calm = true := by rfl) (hs : ∀ x, foldedSetIterable iter X.env x = pure x := by intro _; rfl) :
    IsS X W (.Assign [.Name y py] (.ListComp elt [⟨tgt, iter, ifs, 0⟩] scope pos) spos) (tAsg (tLc wi tg tt te (own.map (·.2))) (gName i)) (sSetL (lLc (own.map (·.2)) fi a gt fe) i) :=
  ⟨ps_setLc hc hN hy hyl hsw hi.pi ok (fun s H C cl fp => (hg s H C cl fp).pg) (fun s H C cl fp => (ht s H C cl fp).pts) (fun s H C cl fp => (he s H C cl fp).pe) hs, tokS_setL i (is_lc (pos := pos) hN hi ok hg ht he hjs hc hs).ok⟩
theorem is_setLcD {i : Nat} {y : Str} {py : Pos} {elt tgt iter : Expr} {ifs : List Expr} {scope : Scope} {own : List (Str × Nat)} {spos : Pos} {wi : TI} {tg : TG} {js : List Nat} {a : XV → Stt → Option Stt} {fi : ME (List D)} {te : TE} {fe : ME XV} (hN : X.N.Nodup) (hi : IsI X W tgt iter wi fi) (ok : BlkOk X.N X.env.scope scope own)
    (hg : ∀ (s : Shared) (H : Hp) (C : Addr) (cl : List (Str × Addr)) (fp : List Addr), IsG (X.blk s H scope (compEnvC scope cl C X.env) fp) tgt tg js a) (ht : ∀ (s : Shared) (H : Hp) (C : Addr) (cl : List (Str × Addr)) (fp : List Addr), IsTs (X.blk s H scope (compEnvC scope cl C X.env) fp) W0 ifs tt gt)
    (he : ∀ (s : Shared) (H : Hp) (C : Addr) (cl : List (Str × Addr)) (fp : List Addr), IsE (X.blk s H scope (compEnvC scope cl C X.env) fp) W0 elt te fe) (hsw : swapsWith (.ListComp elt [⟨tgt, iter, ifs, 0⟩] scope pos) (some (.Name y py)) spos.line X.env = pure true := by exact sw_true rfl rfl rfl (by decide +kernel))
    (hy : X.N[i]? = some y := by rfl) (hyl : X.env.scope.names.lookup y = some .local := by rfl) (hjs : ∀ j ∈ js, j ∈ own.map (·.2) := by decide) (hc : X.calm = true := by rfl) (hs : ∀ x, foldedSetIterable iter X.env x = pure x := by intro _; rfl) :
    IsS X W (.Assign [.Name y py] (.ListComp elt [⟨tgt, iter, ifs, 0⟩] scope pos) spos) (tAsg (tLc wi tg tt te (own.map (·.2))) (gName i)) (sAsg (eL (lLc (own.map (·.2)) fi a gt fe)) (gSet i)) :=
  ⟨ps_setLc hc hN hy hyl hsw hi.pi ok (fun s H C cl fp => (hg s H C cl fp).pg) (fun s H C cl fp => (ht s H C cl fp).pts) (fun s H C cl fp => (he s H C cl fp).pe) hs, tokS_asg (tok_ofL (is_lc (pos := pos) hN hi ok hg ht he hjs hc hs).ok) (tokG_name i)⟩
/-! ### tuples cut -/
structure IsO (X : Cx) (W : WX) (e : Option Expr) (t : TO) (f : ME (Option Int)) : Prop where
  po : PO X e t
  ok : Tok (fun _ _ x v => x = v) X.K W t f
theorem is_onone : IsO X W none tNoPart (ret none) := ⟨po_none, fun F S H r σ q z E hz Q P => by
  cases hz
  exact P none S H r (Ex.refl _) (Rle.refl _) E rfl⟩
def toI : XV → Option Int
  | .d (.int i) => some i
  | _ => none
theorem is_osome (h : IsE X W e t f) : IsO X W (some e) (tPart t) (bnd f fun x => lft ((toI x).map some)) := by
  refine ⟨po_some h.pe, ?_⟩
  refine Tok.bind (t2 := fun x σ H Q => ∃ i, x = V.int i ∧ Q (some i) H) h.ok fun x v F S H r σ q z E rx hz Q P => ?_
  cases x with
  | h n => cases hz
  | d x =>
    cases x with
    | int i =>
      cases hz
      exact ⟨i, xr_int rx, P _ S H r (Ex.refl _) (Rle.refl _) E rfl⟩
    | _ => cases hz
def cutD (xs : List D) (lo hi : Option Int) : List D := (xs.drop (HT.sIx xs.length 0 lo)).take (HT.sIx xs.length xs.length hi - HT.sIx xs.length 0 lo)
theorem cut_rep {S : Hp} {ds : List D} {vs : List V} {lo hi : Option Int} (h : RepL K S ds vs) : RepL K S (cutD ds lo hi) (cutV vs lo hi) := by
  unfold cutD cutV
  rw [← h.length]
  exact (h.drop _).take _
theorem cut_whole {ds : List D} {lo hi : Option Int} (h : HT.sIx ds.length 0 lo = 0 ∧ HT.sIx ds.length ds.length hi = ds.length) : cutD ds lo hi = ds := by
  unfold cutD
  rw [h.1, h.2, List.drop_zero, Nat.sub_zero, List.take_length]
def slD : XV → Option Int → Option Int → Option XV
  | .d (.tup ds), lo, hi => some (.d (.tup (cutD ds lo hi)))
  | .d (.lst ds), lo, hi => some (.d (.lst (cutD ds lo hi)))
  | .d (.seq ds), lo, hi => some (.d (.lst (cutD ds lo hi)))
  | _, _, _ => none
def rSlX (K : PySem.W.Frag) : V → Option Int → Option Int → Hp → VK → Prop := fun x lo hi H Q => rSlA K x lo hi H Q ∨ rSlL K x lo hi H Q
theorem sl_X : SlR X (rSlX X.K) := SlR.or sl_tupA sl_list
def eSl (f1 : ME XV) (fl fh : ME (Option Int)) : ME XV := bnd f1 fun x => bnd fl fun l => bnd fh fun h => lft (slD x l h)
theorem is_sl {lo hi : Option Expr} {tl th : TO} {p2 : Pos} {f2 f3 : ME (Option Int)} (h : IsE X W e t f) (hl : IsO X W lo tl f2) (hh : IsO X W hi th f3) : IsE X W (.Subscript e (.Slice lo hi none p2) pos) (tSl (rSlX X.K) t tl th) (eSl f f2 f3) := by
  refine ⟨pe_slice sl_X h.pe hl.po hh.po, fun F S H r σ q z E hz Q P => ?_⟩
  show t σ H (fun x H1 => tl σ H1 fun l H2 => th σ H2 fun u H3 => rSlX X.K x l u H3 Q)
  refine run_at (rep2 := RX X.K) h.ok E hz P fun x v S1 H1 r1 q1 ex1 k1 E1 rx hz P => ?_
  refine run_at (rep2 := RX X.K) hl.ok E1 hz P fun l l' S2 H2 r2 q2 ex2 k2 E2 rl hz P => ?_
  refine run_at (rep2 := RX X.K) hh.ok E2 hz P fun u u' S3 H3 r3 q3 ex3 k3 E3 ru hz P => ?_
  subst rl
  subst ru
  have rx3 : XRep X.K S3 r3 x v := rx.mono (ex2.trans ex3) (k2.trans k3)
  unfold slD at hz
  cases x with
  | h n => cases hz
  | d x =>
    have rx' : Rep X.K S3 x v := rx3
    cases x with
    | tup ds =>
      cases hz
      rw [Rep] at rx'
      obtain ⟨a, vs, rfl, h1, h2⟩ := rx'
      refine .inl ⟨a, vs, rfl, SqT.of (E3.sub _ _ h1), fun hw => ?_, fun hw p hp => ?_⟩
      · rw [← h2.length] at hw
        rw [cut_whole hw] at P
        refine P (.ref a) S3 H3 r3 (Ex.refl _) (Rle.refl _) E3 ?_
        show Rep X.K S3 (.tup ds) _
        rw [Rep]
        exact ⟨a, vs, rfl, h1, h2⟩
      · obtain ⟨S', ex, E', rp⟩ := new_tup E3 hp (cut_rep (lo := l) (hi := u) h2)
        exact P (.ref p) S' _ r3 ex (Rle.refl _) E' rp
    | lst ds =>
      cases hz
      rw [Rep] at rx'
      obtain ⟨a, vs, rfl, h1, h2⟩ := rx'
      refine .inr ⟨a, vs, rfl, SqL.of (E3.sub _ _ h1), fun p hp => ?_⟩
      obtain ⟨S', ex, E', rp⟩ := new_lst E3 hp (cut_rep (lo := l) (hi := u) h2)
      exact P (.ref p) S' _ r3 ex (Rle.refl _) E' rp
    | seq ds =>
      cases hz
      rw [Rep] at rx'
      obtain ⟨a, vs, rfl, h1, h2⟩ := rx'
      refine .inr ⟨a, vs, rfl, Evl.ex_l E3.sub h1, fun p hp => ?_⟩
      obtain ⟨S', ex, E', rp⟩ := new_lst E3 hp (cut_rep (lo := l) (hi := u) h2)
      exact P (.ref p) S' _ r3 ex (Rle.refl _) E' rp
    | _ => cases hz
/-! ### dict(d), isinstance -/
def gDict : List D → Option D
  | [.dic ks ds] => some (.dic ks ds)
  | _ => none
def rDict : List V → Hp → VK → Prop := fun xs H Q => ∃ (a : Addr) (kvs : List (Key × V)), xs = [.ref a] ∧ Rd H a (.dK kvs) ∧ ∀ p, H p = none → Q (.ref p) (upd H p (.dK kvs))
theorem rc_dict : RCok K rDict gDict := by
  intro F S H r σ q ds z vs E rp hz Q k
  unfold gDict at hz
  split at hz
  · rename_i ks ds
    cases hz
    obtain ⟨v, rfl, a, us, rfl, h1, h2, h3⟩ := one_rep (F := H) rp
    refine ⟨a, _, rfl, .inl h1, fun p hp => ?_⟩
    obtain ⟨E2, ex⟩ := (E.add hp (.dK (ks.zip us))).settle (E.newF hp)
    refine k _ _ _ ex E2 ?_
    rw [Rep]
    exact ⟨p, us, rfl, upd_same, h2, RepL.mono ex _ _ h3⟩
  · cases hz
/-- the name of a built-in class as a value -/
theorem is_ty {x : Str} {n : String} (hg : Gl X x) (hm : X.mg x = none) (hv : bootBuiltins x = some (.type n)) (hn : x ≠ "__name__" := by decide) (hd : (x == ("__debug__" : Str)) = false := by decide) : IsE X W (.Name x pos) (tC (.ty n)) (eC (.ty n)) :=
  ⟨pe_bltn hg hm hv rfl hn hd, tok_c fun S => rp_ty⟩
def tyD : D → Option String
  | .non => some "NoneType"
  | .bl _ => some "bool"
  | .int _ => some "int"
  | .str _ => some "str"
  | .tup _ => some "tuple"
  | .lst _ => some "list"
  | .dic _ _ => some "dict"
  | _ => none
/-- the classes that isinstance is asked of here -/
def isTy (a b : String) : Option Bool :=
  if (b = "bool" ∨ b = "int" ∨ b = "str" ∨ b = "tuple" ∨ b = "list" ∨ b = "dict") ∧ (a = "NoneType" ∨ a = "bool" ∨ a = "int" ∨ a = "str" ∨ a = "tuple" ∨ a = "list" ∨ a = "dict") then some (decide (a = b) || (decide (a = "bool") && decide (b = "int"))) else none
theorem isTy_kit {a b : String} {r : Bool} (h : isTy a b = some r) : kitB a b = some r := by
  unfold isTy at h
  obtain ⟨⟨hb, ha⟩, e⟩ := ifs h
  subst e
  rcases hb with rfl | rfl | rfl | rfl | rfl | rfl <;> rcases ha with rfl | rfl | rfl | rfl | rfl | rfl | rfl <;> decide +kernel
def gIsi : List D → Option D
  | [x, .ty n] => (tyD x).bind fun a => (isTy a n).map .bl
  | _ => none
theorem tyD_of {S H : Hp} (E : Ex S H) {x : D} {v : V} {a : String} (h : tyD x = some a) (rx : RepH K S H x v) : TyX K H v (.type a) := by
  cases x with
  | non => cases h; rw [rh_non rx]; exact .base .non
  | bl b => cases h; rw [rh_bl rx]; exact .base (.bl b)
  | int b => cases h; rw [rh_int rx]; exact .base (.int b)
  | str b => cases h; rw [rh_str rx]; exact .base (.str b)
  | tup ds =>
    cases h
    obtain ⟨a, vs, rfl, h1, _⟩ := rh_tup E rx
    rcases h1 with (h1 | ⟨o, h1⟩) | ⟨o, its, n, h1, h2, _⟩
    · exact .base (.tup h1)
    · exact .fTuple h1
    · exact .kTuple h1 h2
  | lst ds =>
    cases h
    obtain ⟨a, vs, rfl, h1, _⟩ := rx
    exact .base (.lst h1)
  | dic ks ds =>
    cases h
    obtain ⟨a, vs, rfl, h1, _⟩ := rx
    exact .base (.dK h1)
  | _ => cases h
theorem rc_isi : RCok K (rIsi K) gIsi := by
  intro F S H r σ q ds z vs E rp hz Q k
  unfold gIsi at hz
  split at hz
  · rename_i x n
    cases e1 : tyD x with
    | none => rw [e1] at hz; cases hz
    | some a =>
      rw [e1] at hz
      have hz' : (isTy a n).map D.bl = some z := hz
      cases e2 : isTy a n with
      | none => rw [e2] at hz'; cases hz'
      | some b =>
        rw [e2] at hz'
        cases hz'
        obtain ⟨v, v2, rfl, h1, h2⟩ := two_rep (F := H) rp
        rw [rh_ty h2]
        exact ⟨v, .ty n, .type a, .type n, b, rfl, .ty n, tyD_of E.sub e1 h1, kit_ty (isTy_kit e2), k _ S H (Ex.refl _) E rp_bl⟩
  · cases hz
/-! ### a def -/
def fnQ (n : Nat) (xs : List XV) (w : List WO) : Stt := ⟨xs.map toSl ++ List.replicate (n - xs.length) .un, w⟩
def fnG (n : Nat) (g : MS) : Fn := fun xs w => match g (fnQ n xs w) with
  | some (.nx q) => some (.ok (.d .non), q.w)
  | some (.rt x q) => some (.ok x, q.w)
  | _ => none
theorem fnG_ne {n : Nat} {g : MS} : ∀ xs w c w', fnG n g xs w ≠ some (.error c, w') := fun xs w c w' h => by
  unfold fnG at h
  split at h <;> cases h
theorem Env.low {F S H : Hp} {r : List Addr} {σ : L2.St} {q : Stt} (E : Env K F S H r σ q) : Env K F S H r [] ⟨[], q.w⟩ := by
  obtain ⟨F', hF, E', _⟩ := E.hide
  obtain ⟨ow, e⟩ := E
  obtain ⟨ow', e'⟩ := E'
  refine ⟨ow', e.sub, e.fr, fun a x k => ?_, rfl, fun i s k => by simp at k, e'.rlen, e'.wob, fun a vs k => ⟨(e.nt a vs k).1, (e'.nt a vs k).2⟩⟩
  obtain ⟨k1, k2, k3⟩ := e'.ows a x k
  refine ⟨k1, ?_, k3⟩
  cases z : F a with
  | none => rfl
  | some o =>
    rw [hF a o z] at k2
    cases k2
theorem Env.enter {F S H : Hp} {r : List Addr} {w : List WO} (E : Env K F S H r [] ⟨[], w⟩) (n : Nat) {xs : List XV} {vs : List V} (rx : XRepL K S r xs vs) :
    Env K F S H r (vs.map some ++ List.replicate (n - vs.length) none) (fnQ n xs w) := by
  obtain ⟨ow, e⟩ := E
  have hl := rx.length
  refine ⟨ow, e.sub, e.fr, e.ows, by simp [fnQ, hl], fun i s k => ?_, e.rlen, e.wob, e.nt⟩
  have k' : (xs.map toSl ++ List.replicate (n - xs.length) Sl.un)[i]? = some s := k
  by_cases hi : i < xs.length
  · rw [List.getElem?_append_left (by simpa using hi), List.getElem?_map, List.getElem?_eq_getElem hi] at k'
    have es : toSl xs[i] = s := by simpa using k'
    subst es
    obtain ⟨v, h1, h2⟩ := rx.get (List.getElem?_eq_getElem hi)
    have hv : (vs.map some ++ List.replicate (n - vs.length) (none : Option V))[i]? = some (some v) := by
      rw [List.getElem?_append_left (by simp; omega), List.getElem?_map, h1]
      rfl
    rw [hv]
    cases ex : xs[i] with
    | d d =>
      rw [ex] at h2
      exact ⟨v, rfl, h2⟩
    | h m =>
      rw [ex] at h2
      obtain ⟨a, h3, h4⟩ := h2
      exact ⟨a, h3, congrArg some h4⟩
  · rw [List.getElem?_append_right (by simpa using hi)] at k'
    have es : s = .un := by
      rw [List.getElem?_replicate] at k'
      split at k'
      · exact (Option.some.inj k').symm
      · cases k'
    subst es
    trivial
section
variable {P : Program} {w : World} {mg : Str → Option Value} {base : Heap}
/-- THE RULE for a def that raises nothing -/
theorem fn_ok {x qual : Str} {st : Stmt} {f : Addr} {fd : FuncData} {N ps : List Str} {k : Nat} {g : MS} (F : Fun K x qual st f fd) (S : FnScope N ps (defScope st))
    (hb : ∀ (cdv : Value) (A : Around) (outer : List PySem.Env) (s : Shared) (H : Hp) (E : XK), Room k (A.deeper (envOfC qual (defScope st) s.heap.objs.size f cdv)) → ∃ t, IsB (cxOf CX0 P w K mg base N qual (defScope st) f cdv A outer s H E).nox W0 (defBody st) t g) :
    FnOk P w K mg base CX0 (k + 1) f fd ps (spF K ps.length (fnG N.length g)) := by
  refine F.ok S (fun vs H Q E h => h.1) (fun cdv A outer s H vs Q E hr h => ?_)
  obtain ⟨hl, F', S', r, xs, w', z, E0, rx, hg, hP⟩ := h
  obtain ⟨t, hB⟩ := hb cdv A outer s H E hr
  refine ⟨t, hB.ps, ?_⟩
  have E1 := E0.enter N.length rx
  unfold fnG at hg
  cases eg : g (fnQ N.length xs w') with
  | none => rw [eg] at hg; cases hg
  | some fl =>
    rw [eg] at hg
    cases fl with
    | nx q =>
      cases hg
      exact hB.ok F' S' H r _ _ _ E1 eg _ fun σ2 S2 H2 r2 e2 k2 E2 => hP .non S2 H2 r2 e2 k2 E2.low (show Rep K S2 .non .non from rp_non)
    | rt x q =>
      cases hg
      exact hB.ok F' S' H r _ _ _ E1 eg _ fun v σ2 S2 H2 r2 e2 k2 E2 rx2 => hP v S2 H2 r2 e2 k2 E2.low rx2
    | bk q => cases hg
    | ct q => cases hg
    | ex c q => cases hg
end
end
end Den

namespace Den
open PySem PySem.Spec PyProof.Rows L2
open Evl (Ex)
/-- a def of the text as it stands, with what it is worth -/
structure DefOk (P : Program) (w : World) (K : PySem.W.Frag) (mg : Str → Option Value) (base : Heap) (name : Str) (k n : Nat) (G : Fn) : Prop where
  ex : ∃ (f : Addr) (fd : FuncData) (ps : List Str), mg name = some (.ref f) ∧ PySem.W.keepIn K (.ref f) = true ∧ Binds K fd ps [] ∧ FnOk P w K mg base CX0 k f fd ps (spF K n G)
section
variable {X : Cx} {W : WX} {e e1 e2 : Expr} {es : List Expr} {ta : TA} {fa : ME (List XV)} {pos p : Pos} {t t1 t2 : TE} {f f1 f2 : ME XV}
theorem is_callD {name : Str} {k n : Nat} {G : Fn} (d : DefOk X.prog X.w X.K X.mg X.base name k n G) (hr : Room k X.A) (hne : ∀ xs w c w', G xs w ≠ some (.error c, w')) (ha : IsA X W (e :: es) ta fa) (hg : Gl X name := by rfl) (hdb : (name == ("__debug__" : Str)) = false := by decide)
    (he : starEach (e :: es) X.env = (false, eval e X.env) :: starEach es X.env := by rfl) (hpl : (backTo pos (starEach es X.env)).any (·.1) = false := by rfl) : IsE X W (.Call (.Name name p) (e :: es) [] pos) (tCall (spF X.K n G) [] E0 ta) (eCall n G fa) := by
  obtain ⟨f, fd, ps, hm, hk, hb, F⟩ := d.ex
  exact is_call (CXx := CX0) F hr hg hm hk hb ha hne hdb he hpl
/-- a def without parameters -/
theorem is_callD0 {name : Str} {k : Nat} {G : Fn} (d : DefOk X.prog X.w X.K X.mg X.base name k 0 G) (hr : Room k X.A) (hne : ∀ xs w c w', G xs w ≠ some (.error c, w')) (hg : Gl X name := by rfl) (hdb : (name == ("__debug__" : Str)) = false := by decide) :
    IsE X W (.Call (.Name name p) [] [] pos) (tCall (spF X.K 0 G) [] E0 tNil) (eCall 0 G aNil) := by
  obtain ⟨f, fd, ps, hm, hk, hb, F⟩ := d.ex
  refine ⟨pe_call0 F hr hg hm hk hb .nil pass0 hdb, ?_⟩
  refine Tok.bind (rep := RXL X.K) (te := tNil) (t2 := fun xs σ H Q => spF X.K 0 G (xs ++ []) H Q E0) (is_anil (X := X) (W := W)).ok fun x v F S H r σ q z E rx hz Q P => ?_
  obtain ⟨h1, F', S', r', xs', w', z', h2, h3, h4, h5⟩ := sp_of (W := W) E rx hz P
  refine ⟨h1, F', S', r', xs', w', z', h2, h3, h4, ?_⟩
  obtain ⟨y, w2⟩ := z'
  cases y with
  | ok y => exact h5
  | error c => exact absurd h4 (hne _ _ _ _)
theorem def_ok {P : Program} {w : World} {K : PySem.W.Frag} {mg : Str → Option Value} {base : Heap} {x qual : Str} {st : Stmt} {fA : Addr} {fd : FuncData} {N ps : List Str} {k n : Nat} {g : MS} (F : Fun K x qual st fA fd) (hm : mg x = some (.ref fA)) (b : Binds K fd ps []) (S : FnScope N ps (defScope st)) (hn : ps.length = n)
    (hb : ∀ (cdv : Value) (A : Around) (outer : List PySem.Env) (s : Shared) (H : Hp) (E : XK), Room k (A.deeper (envOfC qual (defScope st) s.heap.objs.size fA cdv)) → ∃ t, IsB (cxOf CX0 P w K mg base N qual (defScope st) fA cdv A outer s H E).nox W0 (defBody st) t g) :
    DefOk P w K mg base x (k + 1) n (fnG N.length g) := ⟨⟨fA, fd, ps, hm, F.kp, b, by rw [← hn]; exact fn_ok F S hb⟩⟩
/-! shorter names -/
theorem is_len {p : Pos} (hm : X.mg "len" = none) (h : IsE X W e t f) (hg : Gl X "len" := by rfl) (he : starEach [e] X.env = (false, eval e X.env) :: starEach [] X.env := by rfl) : IsE X W (.Call (.Name "len" p) [e] [] pos) (tCB (rLenX X.K) (tCons t tNil)) (eCB gLen (aCons f aNil)) :=
  is_cb call_lenX rc_len hg hm (by decide +kernel) (is_acons h is_anil he) (he := he)
theorem is_lenV (i : Nat) {y : Str} {p p2 : Pos} (hm : X.mg "len" = none) (hg : Gl X "len" := by rfl) (hN : X.N[i]? = some y := by rfl) (hvs : Vis X.env.scope y := by first | exact Or.inl rfl | exact Or.inr (Or.inl rfl) | exact Or.inr (Or.inr rfl)) (hd : (y == ("__debug__" : Str)) = false := by decide)
    (hcd : (y == ("__classdict__" : Str)) = false := by decide) (he0 : starEach [.Name y p2] X.env = (false, eval (.Name y p2) X.env) :: starEach [] X.env := by rfl) : IsE X W (.Call (.Name "len" p) [.Name y p2] [] pos) (tCB (rLenX X.K) (tCons (tVar i) tNil)) (eCBV gLen i) :=
  is_cbV i call_lenX rc_len hg hm (by decide +kernel) hN hvs hd hcd (he0 := he0)
theorem is_int1 {p : Pos} (hm : X.mg "int" = none) (h : IsE X W e t f) (hg : Gl X "int" := by rfl) (he : starEach [e] X.env = (false, eval e X.env) :: starEach [] X.env := by rfl) : IsE X W (.Call (.Name "int" p) [e] [] pos) (tCB (fun xs H Q => (∃ i, xs = [.int i] ∧ Q (.int i) H) ∨ ∃ k, xs = [.bl k] ∧ Q (.int (if k then 1 else 0)) H) (tCons t tNil)) (eCB gInt (aCons f aNil)) :=
  is_cty call_int1 rc_int hg hm (by decide +kernel) (is_acons h is_anil he) (he := he)
theorem is_abs {p : Pos} (hm : X.mg "abs" = none) (h : IsE X W e t f) (hg : Gl X "abs" := by rfl) (he : starEach [e] X.env = (false, eval e X.env) :: starEach [] X.env := by rfl) : IsE X W (.Call (.Name "abs" p) [e] [] pos) (tCB (fun xs H Q => ∃ i, xs = [.int i] ∧ Q (.int (if i < 0 then -i else i)) H) (tCons t tNil)) (eCB gAbs (aCons f aNil)) :=
  is_cb call_abs rc_abs hg hm (by decide +kernel) (is_acons h is_anil he) (he := he)
theorem is_max2 {p : Pos} (hm : X.mg "max" = none) (h : IsE X W e1 t1 f1) (h2 : IsE X W e2 t2 f2) (hc : X.calm = true := by rfl) (hg : Gl X "max" := by rfl) (he : starEach [e1, e2] X.env = (false, eval e1 X.env) :: starEach [e2] X.env := by rfl) (he2 : starEach [e2] X.env = (false, eval e2 X.env) :: starEach [] X.env := by rfl) (hpl : (backTo pos (starEach [e2] X.env)).any (·.1) = false := by rfl) :
    IsE X W (.Call (.Name "max" p) [e1, e2] [] pos) (tCB (fun xs H Q => ∃ i j, xs = [.int i, .int j] ∧ Q (.int (if j > i then j else i)) H) (tCons t1 (tCons t2 tNil))) (eCB gMax (aCons f1 (aCons f2 aNil))) :=
  is_cb (call_max2 hc) rc_max hg hm (by decide +kernel) (is_acons h (is_acons h2 is_anil he2) he) (he := he) (hpl := hpl)
theorem is_min2 {p : Pos} (hm : X.mg "min" = none) (h : IsE X W e1 t1 f1) (h2 : IsE X W e2 t2 f2) (hc : X.calm = true := by rfl) (hg : Gl X "min" := by rfl) (he : starEach [e1, e2] X.env = (false, eval e1 X.env) :: starEach [e2] X.env := by rfl) (he2 : starEach [e2] X.env = (false, eval e2 X.env) :: starEach [] X.env := by rfl) (hpl : (backTo pos (starEach [e2] X.env)).any (·.1) = false := by rfl) :
    IsE X W (.Call (.Name "min" p) [e1, e2] [] pos) (tCB (fun xs H Q => ∃ i j, xs = [.int i, .int j] ∧ Q (.int (if j < i then j else i)) H) (tCons t1 (tCons t2 tNil))) (eCB gMin (aCons f1 (aCons f2 aNil))) :=
  is_cb (call_min2 hc) rc_min hg hm (by decide +kernel) (is_acons h (is_acons h2 is_anil he2) he) (he := he) (hpl := hpl)
theorem is_sum {p : Pos} (hm : X.mg "sum" = none) (h : IsE X W e t f) (hc : X.calm = true := by rfl) (hg : Gl X "sum" := by rfl) (he : starEach [e] X.env = (false, eval e X.env) :: starEach [] X.env := by rfl) : IsE X W (.Call (.Name "sum" p) [e] [] pos) (tCB (rSum X.K) (tCons t tNil)) (eCB gSum (aCons f aNil)) :=
  is_cb (cr_sum hc) rc_sum hg hm (by decide +kernel) (is_acons h is_anil he) (he := he)
theorem is_tuple {p : Pos} (hm : X.mg "tuple" = none) (h : IsE X W e t f) (hg : Gl X "tuple" := by rfl) (he : starEach [e] X.env = (false, eval e X.env) :: starEach [] X.env := by rfl) : IsE X W (.Call (.Name "tuple" p) [e] [] pos) (tCB (rTuple X.K) (tCons t tNil)) (eCB gTuple (aCons f aNil)) :=
  is_cty call_tuple_of rc_tuple hg hm (by decide +kernel) (is_acons h is_anil he) (he := he)
theorem is_tupleV (i : Nat) {y : Str} {p p2 : Pos} (hm : X.mg "tuple" = none) (hg : Gl X "tuple" := by rfl) (hN : X.N[i]? = some y := by rfl) (hvs : Vis X.env.scope y := by first | exact Or.inl rfl | exact Or.inr (Or.inl rfl) | exact Or.inr (Or.inr rfl)) (hd : (y == ("__debug__" : Str)) = false := by decide)
    (hcd : (y == ("__classdict__" : Str)) = false := by decide) (he0 : starEach [.Name y p2] X.env = (false, eval (.Name y p2) X.env) :: starEach [] X.env := by rfl) : IsE X W (.Call (.Name "tuple" p) [.Name y p2] [] pos) (tCB (rTuple X.K) (tCons (tVar i) tNil)) (eCBV gTuple i) :=
  is_ctyV i call_tuple_of rc_tuple hg hm (by decide +kernel) hN hvs hd hcd (he0 := he0)
theorem is_list {p : Pos} (hm : X.mg "list" = none) (h : IsE X W e t f) (hg : Gl X "list" := by rfl) (he : starEach [e] X.env = (false, eval e X.env) :: starEach [] X.env := by rfl) : IsL X W (.Call (.Name "list" p) [e] [] pos) (tCB (rList X.K) (tCons t tNil)) (lCB gList (aCons f aNil)) :=
  is_lcty call_list_of rl_list hg hm (by decide +kernel) (is_acons h is_anil he) (he := he)
theorem is_dict {p : Pos} (hm : X.mg "dict" = none) (h : IsE X W e t f) (hg : Gl X "dict" := by rfl) (he : starEach [e] X.env = (false, eval e X.env) :: starEach [] X.env := by rfl) : IsE X W (.Call (.Name "dict" p) [e] [] pos) (tCB rDict (tCons t tNil)) (eCB gDict (aCons f aNil)) :=
  is_cty call_dictD rc_dict hg hm (by decide +kernel) (is_acons h is_anil he) (he := he)
theorem is_isi {p : Pos} (hm : X.mg "isinstance" = none) (h : IsE X W e1 t1 f1) (h2 : IsE X W e2 t2 f2) (hg : Gl X "isinstance" := by rfl) (he : starEach [e1, e2] X.env = (false, eval e1 X.env) :: starEach [e2] X.env := by rfl) (he2 : starEach [e2] X.env = (false, eval e2 X.env) :: starEach [] X.env := by rfl) (hpl : (backTo pos (starEach [e2] X.env)).any (·.1) = false := by rfl) :
    IsE X W (.Call (.Name "isinstance" p) [e1, e2] [] pos) (tCB (rIsi X.K) (tCons t1 (tCons t2 tNil))) (eCB gIsi (aCons f1 (aCons f2 aNil))) :=
  is_cb call_isi rc_isi hg hm (by decide +kernel) (is_acons h (is_acons h2 is_anil he2) he) (he := he) (hpl := hpl)
/-- {} as a value -/
def eNewK : ME XV := ret (.d (.dic [] []))
theorem is_emptyK : IsE X W (.Dict [] [] pos) tDNewK eNewK := ⟨pe_dnewK, fun F S H r σ q z E hz Q P p hp => by
  cases hz
  obtain ⟨E2, ex⟩ := (E.add hp (.dK [])).settle (E.newF hp)
  refine P (.ref p) _ _ r ex (Rle.refl _) E2 ?_
  show Rep X.K _ (.dic [] []) _
  rw [Rep]
  exact ⟨p, [], rfl, upd_same, rfl, RepL.nil⟩⟩
end
end Den

namespace Den
open PySem PySem.Spec PyProof.Rows L2
open Evl (Ex)
theorem isE_t {X : Cx} {W : WX} {e : Expr} {t t' : TE} {f : ME XV} (h : IsE X W e t' f) (ht : t' = t) : IsE X W e t f := ht ▸ h
theorem isTs_t {X : Cx} {W : WX} {es : List Expr} {t t' : TT} {f : ME Bool} (h : IsTs X W es t' f) (ht : t' = t) : IsTs X W es t f := ht ▸ h
theorem isG_t {X : Cx} {e : Expr} {t t' : TG} {js : List Nat} {a : XV → Stt → Option Stt} (h : IsG X e t' js a) (ht : t' = t) : IsG X e t js a := ht ▸ h
theorem def_zero {P : Program} {w : World} {K : PySem.W.Frag} {mg : Str → Option Value} {base : Heap} {x qual : Str} {st : Stmt} {fA : Addr} {fd : FuncData} {ps : List Str} {n : Nat} (F : Fun K x qual st fA fd) (hm : mg x = some (.ref fA)) (b : Binds K fd ps []) (hn : ps.length = n) :
    DefOk P w K mg base x 0 n (fun _ _ => none) := ⟨⟨fA, fd, ps, hm, F.kp, b, ⟨fun vs H Q E h => h.1.trans hn.symm, fun A outer s H args us vs Q E hr e0 bt vl h => by
  obtain ⟨_, _, _, _, _, _, _, _, _, h, _⟩ := h
  cases h⟩⟩⟩
theorem repL_ints {K : PySem.W.Frag} {S : Hp} : ∀ ns : List Int, RepL K S (ns.map .int) (ns.map V.int)
  | [] => RepL.nil
  | n :: ns => RepL.cons rp_int (repL_ints ns)
/-- how the law is begun -/
theorem start {K : PySem.W.Frag} {G : Fn} {ns : List Int} {H : Hp} {a : Addr} (h : ∃ w', G [.d (.seq (ns.map .int))] [] = some (.ok (.d (.bl true)), w')) (hS : SqL K H a (ns.map V.int)) : spF K 1 G [.ref a] H (fun v _ => v = .bl true) fun _ _ _ => False := by
  obtain ⟨w', hg⟩ := h
  refine ⟨rfl, fun _ => none, H, [], [.d (.seq (ns.map .int))], [], _, ⟨fun _ => none, ⟨Ex.refl _, fun a o h => (nomatch h), fun a x h => (nomatch h), rfl, fun i s h => (by simp at h), rfl, fun n o h => (by simp at h), fun _ _ _ => ⟨rfl, rfl⟩⟩⟩, ⟨.ref a, [], rfl, ?_, rfl⟩, hg, fun v S' H' r' _ _ _ rx => ?_⟩
  · show Rep K H (.seq _) _
    rw [Rep]
    exact ⟨a, _, rfl, hS, repL_ints ns⟩
  · have rx' : Rep K S' (.bl true) v := rx
    rw [Rep] at rx'
    exact rx'
end Den

namespace Den
open PySem PySem.Spec PyProof.Rows L2
open Evl (Ex)
set_option maxHeartbeats 1000000 in
theorem meets_enum1 {v : Value} {o : Obj} {H : Heap → Prop} (B : Begins v o H) :
    Meets (Builtin.«enumerate.__new__» ⟨[.type "enumerate", v], []⟩) (fun _ R s => H s.heap ∧
      R (.ok (.ret (.ref (s.heap.push o).objs.size))) { s with heap := (s.heap.push o).push { cls := .type "enumerate", data := .fields #[.none, .bool false, .ref s.heap.objs.size, rawInt 0, .none, .none] } }) :=
  .of_wp fun prog w A R s h => by
    obtain ⟨hp, g, d, tk, os⟩ := s
    obtain ⟨h1, h⟩ := h
    have hsub := sub_enumerate
    have q1 : ∀ {A' : Around} {E : Value → Shared → Prop} {Q : Value → Shared → Prop}, Q (.ref hp.objs.size) ⟨hp.push o, g, d, tk, os⟩ → wpAny (model prog w) A' (pyIter v) Q E ⟨hp, g, d, tk, os⟩ :=
      fun q => B.iter prog w _ _ ⟨hp, g, d, tk, os⟩ _ h1 q
    wp_walk using q1
    refine wpAny_stack_any fun st => wpAny_pure ?_
    split
    · rename_i c _ _ _ _ _
      cases (c == Value.type "enumerate")
      · wp_walk using q1
        exact ⟨_, rfl, h⟩
      · wp_walk using q1
        exact ⟨_, rfl, h⟩
    · wp_walk using q1
      exact ⟨_, rfl, h⟩
theorem call_enum1 {prog : Program} {w : World} {A : Around} {E : Value → Shared → Prop} {s : Shared} {v : Value} {o : Obj} {H : Heap → Prop} {Q : Value → Shared → Prop} (B : Begins v o H) (h1 : H s.heap)
    (h : ∀ h', IsEnum h' (s.heap.objs.size + 1) s.heap.objs.size 0 .none → h'.get? s.heap.objs.size = some o → h'.objs.size = s.heap.objs.size + 2 →
      (∀ b o, s.heap.get? b = some o → h'.get? b = some o) → Q (.ref (s.heap.objs.size + 1)) { s with heap := h' }) :
    wpAny (model prog w) A (call (.type "enumerate") [v]) Q E s := by
  refine callType_new F.called_enumerate (by decide) (F.typeCall_enumerate_1 _) (F.newCall_enumerate_1 _) (fun obj => F.args_object_init_2 obj _) F.entry_enumerate_new (meets_enum1 B) ⟨h1, ?_⟩
  have hz : (s.heap.push o).objs.size = s.heap.objs.size + 1 := Heap.size_push ..
  show _ ∧ _
  rw [hz]
  have he : IsEnum ((s.heap.push o).push { cls := .type "enumerate", data := .fields #[.none, .bool false, .ref s.heap.objs.size, rawInt 0, .none, .none] }) (s.heap.objs.size + 1) s.heap.objs.size 0 .none := by
    have z := Heap.get?_push_size (s.heap.push o) (o := { cls := .type "enumerate", data := .fields #[.none, .bool false, .ref s.heap.objs.size, rawInt 0, .none, .none] }) rfl
    rw [hz] at z
    exact z
  refine ⟨⟨_, he, rfl⟩, h _ he (Heap.get?_push_of_some _ (Heap.get?_push_size _ B.free)) (by rw [Heap.size_push, hz]) fun b o x => Heap.get?_push_of_some _ (Heap.get?_push_of_some _ x)⟩
/-! ### enumerate over a tuple -/
def Itet (K : PySem.W.Frag) (a : Addr) : It :=
  ⟨fun i H => ∃ (xs : List V) (x : V), SqT K H a xs ∧ xs[i]? = some x, fun i H v H' => ∃ T x, v = .ref T ∧ H T = none ∧ H' = upd H T (.tup [.int (i : Nat), x]) ∧ ∀ xs, SqT K H a xs → xs[i]? = some x, fun i H => ∃ xs : List V, SqT K H a xs ∧ xs.length ≤ i⟩
theorem turn_enumT {P : Program} {w : World} {K : PySem.W.Frag} {elts : List Expr} {kk : Nat} {tpos : Pos} (a e it : Addr) :
    Turn P w K (.Tuple elts kk tpos) (Itet K a) [e, it] e (fun i h => (∃ old, IsEnum h e it ((i : Nat) : Int) old) ∧ h.IsTupleIter it a i ∧ e ≠ it ∧ e ≠ a ∧ it ≠ a) where
  mem := by simp
  obj := fun i h st b hb => by
    obtain ⟨⟨old, he⟩, ⟨o, ho, hc, hd⟩, _⟩ := st
    have e' : b = e ∨ b = it := by simpa using hb
    rcases e' with z | z
    · rw [z]; exact ⟨_, he, fun v q => nomatch q⟩
    · rw [z]; exact ⟨o, ho, fun v q => by rw [hd] at q; cases q⟩
  keep := fun i h h' st k => let ⟨⟨old, he⟩, hi, hne⟩ := st; ⟨⟨old, k e (by simp) _ he⟩, hi.at fun o q => k it (by simp) o q, hne⟩
  item := by
    intro X hP hw hK hc i pins s σ H E I hf st hg
    subst hP hw hK
    obtain ⟨⟨old, he⟩, hit, hne, hea, hia⟩ := st
    obtain ⟨xs, x, hq, hx⟩ := hg
    obtain ⟨its, rv, p, hz⟩ := I.tuple hq
    obtain ⟨u, hu, ru⟩ := rv.get hx
    have hel : e < s.heap.objs.size := Heap.lt_size he
    have hil : it < s.heap.objs.size := by obtain ⟨_, q, _⟩ := hit; exact Heap.lt_size q
    have hlt : i < its.toArray.size := by
      have hh := (List.getElem?_eq_some_iff.1 hu).1
      simpa using hh
    refine wpAny_pyNext_enum_itemD (Draws.tuple (show Around.handled (Around.in1 _) = none from I.ok.hd hc) it a (Ne.symm hia) its.toArray) he ⟨hit, show s.heap.IsTuple a its.toArray from p⟩ hlt hne (by simp [hne, hea]) fun x' h' tk hP ho hs' hT hsz hk => ?_
    have ex' : x' = u := by
      have q1 : its.toArray[i]? = some u := by simpa using hu
      exact Option.some.inj (hP.symm.trans q1)
    subst ex'
    obtain ⟨hit', _⟩ := hs'
    refine ⟨_, rfl, wpAny_letOwnedTupleGo_enum (s := { s with heap := h', toks := tk + 1 }) ho fun h'' he' sb => ?_⟩
    have hT2 : h''.get? s.heap.objs.size = some { cls := .type "tuple", data := .seq #[.int i tk, x'] } := (sb.2 _ (Nat.ne_of_gt hel)).trans hT
    have new : ObjOk X.prog X.w (upd H s.heap.objs.size (.tup [.int (i : Nat), x])) h'' s.heap.objs.size (.tup [.int (i : Nat), x]) :=
      ⟨by show 2 ≤ sizeLine; decide, [.int i tk, x'], .cons ⟨_, rfl⟩ (.cons ru .nil), ⟨_, hT2, rfl, _, rfl⟩⟩
    have I1 : Inv X pins σ (upd H s.heap.objs.size (.tup [.int (i : Nat), x])) { s with heap := h'', toks := tk + 1 } :=
      I.turnedNew (ch := [e, it]) (fun b ob hb q => (sb.2 b (fun z => hb (by simp [z]))).trans (hk b ob (fun z => hb (by simp [z])) (fun z => hb (by simp [z])) q)) hf (Nat.le_refl _) new
    refine ⟨.ref s.heap.objs.size, _, I1, rfl, ⟨_, x, rfl, I.hok.fresh (Nat.le_refl _), rfl, fun ys hy => by rw [I.tuple_inj hy hq]; exact hx⟩, ⟨⟨x', ?_⟩, hit'.at fun o q => (sb.2 it (Ne.symm hne)).trans q, hne, hea, hia⟩, fun b hb => ?_⟩
    · have e1 : ((i + 1 : Nat) : Int) = (i : Int) + 1 := by omega
      rw [e1]; exact he'
    · have hb' : b < s.heap.objs.size := by
        have e' : b = e ∨ b = it := by simpa using hb
        rcases e' with z | z
        · rw [z]; exact hel
        · rw [z]; exact hil
      rw [upd_ne (Nat.ne_of_lt hb')]
      exact (hf b hb).1
  done := by
    intro X hP hw hK hc i pins s σ H E I hf st hg
    subst hP hw hK
    obtain ⟨⟨old, he⟩, hit, hne, hea, hia⟩ := st
    obtain ⟨xs, hq, hx⟩ := hg
    obtain ⟨its, rv, p, hz⟩ := I.tuple hq
    obtain ⟨f0, f1, f2, f3, f4, f5⟩ := hf it (by simp)
    have hl := rv.length
    have D : Draws X.prog X.w (Around.in1 X.A) it [it, a] i (fun _ _ => False) (fun j h => j = i ∧ h.IsTupleIter it a i ∧ h.IsTuple a its.toArray) :=
      { live := fun _ _ st => let ⟨o, ho, _⟩ := st.2.1; ⟨o, ho⟩
        frame := fun _ _ _ st hk => ⟨st.1, st.2.1.at fun o e => hk it (by simp) o e, st.2.2.at fun o e => hk a (by simp) o e⟩
        item := fun j s Q E hj st _ => absurd st.1 (Nat.ne_of_lt hj)
        done := fun s Q E st hE => wpAny_nextOf_tuple_end (show Around.handled (Around.in1 _) = none from I.ok.hd hc) st.2.1 st.2.2 (by simp; omega) hE }
    exact wpAny_pyNext_enum_endD D he ⟨rfl, hit, show s.heap.IsTuple a its.toArray from p⟩ fun h' eb => ⟨rfl, I.turned (t' := s.toks) (fun b o hb q => eb b o hb q) f0 f1 f3 f4 f5⟩
  self := fun A i s Q E st h => let ⟨⟨_, he⟩, _⟩ := st; wpAny_pyIter_enum he h
theorem wpAny_pyIterT {prog : Program} {w : World} {A : Around} {E : Value → Shared → Prop} {s : Shared} {a : Addr} {its : Array Value} {Q : Value → Shared → Prop} (h : s.heap.IsTuple a its)
    (k : ∀ h', IsEnum h' (s.heap.objs.size + 1) s.heap.objs.size 0 .none → h'.IsTupleIter s.heap.objs.size a 0 → h'.objs.size = s.heap.objs.size + 2 →
      (∀ b o, s.heap.get? b = some o → h'.get? b = some o) → Q (.ref (s.heap.objs.size + 1)) { s with heap := h' }) :
    wpAny (model prog w) A (call (.type "enumerate") [.ref a]) Q E s :=
  call_enum1 (begins_tuple a its) h fun h' h1 h2 h3 h4 => k h' h1 ⟨_, h2, rfl, rfl⟩ h3 h4
/-- enumerate over a list or a tuple -/
def iEnX (K : PySem.W.Frag) (tl : TE) : TI := fun σ H R => tl σ H fun x H1 => ∃ a, x = .ref a ∧ ((∃ xs, SqL K H1 a xs) ∧ R (Ite K a) H1 ∨ (∃ xs, SqT K H1 a xs) ∧ R (Itet K a) H1)
section
variable {X : Cx} {W : WX} {e : Expr} {t : TE} {f : ME XV} {pos p tpos : Pos} {elts : List Expr} {kk : Nat} {K : PySem.W.Frag}
theorem pi_enX (hl : PE X e t) (hg : Gl X "enumerate") (hm : X.mg "enumerate" = none) (hs : starEach [e] X.env = (false, eval e X.env) :: starEach [] X.env := by rfl) :
    PI X (.Tuple elts kk tpos) (.Call (.Name "enumerate" p) [e] [] pos) (iEnX X.K t) := by
  have ha := pa_cons hl (pa_nil (X := X)) hs
  refine ⟨fun pins s σ H R I h => ?_⟩
  refine Call_ (ld_blt I hg hm boot_enumerate (PyProof.Rows.callWith_type1 (thn (ha.run pos pins s σ H (fun vs H1 => match vs with | [v] => ∃ a, v = .ref a ∧ ((∃ xs, SqL X.K H1 a xs) ∧ R (Ite X.K a) H1 ∨ (∃ xs, SqT X.K H1 a xs) ∧ R (Itet X.K a) H1) | _ => False) I h) fun us s1 ⟨vs, H1, I1, r1, q1⟩ => ?_) hs rfl))
  cases r1 with
  | nil => exact q1.elim
  | cons r rr =>
    cases rr with
    | cons _ _ => exact q1.elim
    | nil =>
    obtain ⟨a, ex2, q⟩ := q1
    subst ex2
    cases r
    rcases q with ⟨⟨xs, hq⟩, q⟩ | ⟨⟨xs, hq⟩, q⟩
    · obtain ⟨its, rv, p', hz⟩ := I1.list hq
      refine call_enumerate_list p'.isList fun h' he hit hsz hk => wpAny_pyIter_enum he ?_
      have I2 : Inv X pins σ H1 { s1 with heap := h' } := I1.kept (t' := s1.toks) hk
      refine ⟨s1.heap.objs.size + 1, [s1.heap.objs.size + 1, s1.heap.objs.size], _, _, H1, rfl, I2, turn_enum a (s1.heap.objs.size + 1) s1.heap.objs.size, ⟨⟨.none, he⟩, hit, Nat.succ_ne_self _⟩, fun b hb => ?_, q⟩
      have e' : b = s1.heap.objs.size + 1 ∨ b = s1.heap.objs.size := by simpa using hb
      have hle : s1.heap.objs.size ≤ b := by
        rcases e' with z | z
        · rw [z]; exact Nat.le_add_right _ _
        · rw [z]; exact Nat.le_refl _
      exact I1.fpOk hle (I1.hok.fresh hle)
    · obtain ⟨its, rv, p', hz⟩ := I1.tuple hq
      have hlt : a < s1.heap.objs.size := by obtain ⟨_, q, _⟩ := (show s1.heap.IsTuple a its.toArray from p'); exact Heap.lt_size q
      refine wpAny_pyIterT (show s1.heap.IsTuple a its.toArray from p') fun h' he hit hsz hk => wpAny_pyIter_enum he ?_
      have I2 : Inv X pins σ H1 { s1 with heap := h' } := I1.kept (t' := s1.toks) hk
      refine ⟨s1.heap.objs.size + 1, [s1.heap.objs.size + 1, s1.heap.objs.size], _, _, H1, rfl, I2, turn_enumT a (s1.heap.objs.size + 1) s1.heap.objs.size, ⟨⟨.none, he⟩, hit, Nat.succ_ne_self _, Nat.ne_of_gt (Nat.lt_succ_of_lt hlt), Nat.ne_of_gt hlt⟩, fun b hb => ?_, q⟩
      have e' : b = s1.heap.objs.size + 1 ∨ b = s1.heap.objs.size := by simpa using hb
      have hle : s1.heap.objs.size ≤ b := by
        rcases e' with z | z
        · rw [z]; exact Nat.le_add_right _ _
        · rw [z]; exact Nat.le_refl _
      exact I1.fpOk hle (I1.hok.fresh hle)
def enumD (ds : List D) : List D := ds.zipIdx.map fun x => .tup [.int x.2, x.1]
theorem enumD_get {ds : List D} {i : Nat} {d : D} (h : (enumD ds)[i]? = some d) : ∃ x, ds[i]? = some x ∧ d = .tup [.int i, x] := by
  unfold enumD at h
  rw [List.getElem?_map, List.getElem?_zipIdx] at h
  cases e : ds[i]? with
  | none => rw [e] at h; cases h
  | some x =>
    rw [e] at h
    refine ⟨x, rfl, ?_⟩
    have h' := Option.some.inj h
    simpa using h'.symm
theorem enumD_len {ds : List D} : (enumD ds).length = ds.length := by simp [enumD]
theorem wlk_enL {S : Hp} {a : Addr} {vs : List V} {ds : List D} (h : SqL K S a vs) (rp : RepL K S ds vs) : Wlk K S (Ite K a) (enumD ds) := by
  refine ⟨fun F S2 H r σ q i d e E hd => ?_, fun F S2 H r σ q i e E hi => ?_⟩
  · have h2 : SqL K H a vs := Evl.ex_l E.sub (Evl.ex_l e h)
    obtain ⟨x, hx, rfl⟩ := enumD_get hd
    obtain ⟨v, hv, rv⟩ := rp.get hx
    refine ⟨⟨vs, v, h2, hv⟩, fun x' H' y => ?_⟩
    obtain ⟨T, y, rfl, hT, rfl, hy⟩ := y
    have ey : y = v := Option.some.inj ((hy vs h2).symm.trans hv)
    subst ey
    obtain ⟨S', ex, E', rp'⟩ := new_tup E hT (ds := [.int i, x]) (vs := [.int i, y]) ⟨_, _, rfl, rp_int, _, _, rfl, Rep.mono e _ _ rv, rfl⟩
    exact ⟨S', ex, E', rp'⟩
  · exact ⟨vs, Evl.ex_l E.sub (Evl.ex_l e h), by rw [← rp.length, ← enumD_len]; exact hi⟩
theorem wlk_enT {S : Hp} {a : Addr} {vs : List V} {ds : List D} (h : SqT K S a vs) (rp : RepL K S ds vs) : Wlk K S (Itet K a) (enumD ds) := by
  refine ⟨fun F S2 H r σ q i d e E hd => ?_, fun F S2 H r σ q i e E hi => ?_⟩
  · have h2 : SqT K H a vs := Evl.ex_t E.sub (Evl.ex_t e h)
    obtain ⟨x, hx, rfl⟩ := enumD_get hd
    obtain ⟨v, hv, rv⟩ := rp.get hx
    refine ⟨⟨vs, v, h2, hv⟩, fun x' H' y => ?_⟩
    obtain ⟨T, y, rfl, hT, rfl, hy⟩ := y
    have ey : y = v := Option.some.inj ((hy vs h2).symm.trans hv)
    subst ey
    obtain ⟨S', ex, E', rp'⟩ := new_tup E hT (ds := [.int i, x]) (vs := [.int i, y]) ⟨_, _, rfl, rp_int, _, _, rfl, Rep.mono e _ _ rv, rfl⟩
    exact ⟨S', ex, E', rp'⟩
  · exact ⟨vs, Evl.ex_t E.sub (Evl.ex_t e h), by rw [← rp.length, ← enumD_len]; exact hi⟩
def iEn (f : ME XV) : ME (List D) := bnd f fun x => lft ((seqD x).map enumD)
theorem tok_enX (h : Tok (RX K) K W t f) : Tok (RI K) K W (iEnX K t) (iEn f) := by
  refine Tok.bind (t2 := fun x σ H R => ∃ a, x = .ref a ∧ ((∃ xs, SqL K H a xs) ∧ R (Ite K a) H ∨ (∃ xs, SqT K H a xs) ∧ R (Itet K a) H)) h fun x v F S H r σ q z E rx hz Q P => ?_
  cases x with
  | h n => cases hz
  | d x =>
    have rx' : Rep K S x v := rx
    cases x with
    | lst ds =>
      cases hz
      rw [Rep] at rx'
      obtain ⟨a, vs, rfl, h1, h2⟩ := rx'
      exact ⟨a, rfl, .inl ⟨⟨vs, SqL.of (E.sub _ _ h1)⟩, P _ S H r (Ex.refl _) (Rle.refl _) E (wlk_enL (SqL.of h1) h2)⟩⟩
    | seq ds =>
      cases hz
      rw [Rep] at rx'
      obtain ⟨a, vs, rfl, h1, h2⟩ := rx'
      exact ⟨a, rfl, .inl ⟨⟨vs, Evl.ex_l E.sub h1⟩, P _ S H r (Ex.refl _) (Rle.refl _) E (wlk_enL h1 h2)⟩⟩
    | tup ds =>
      cases hz
      rw [Rep] at rx'
      obtain ⟨a, vs, rfl, h1, h2⟩ := rx'
      exact ⟨a, rfl, .inr ⟨⟨vs, SqT.of (E.sub _ _ h1)⟩, P _ S H r (Ex.refl _) (Rle.refl _) E (wlk_enT (SqT.of h1) h2)⟩⟩
    | _ => cases hz
theorem is_enum (hm : X.mg "enumerate" = none) (h : IsE X W e t f) (hg : Gl X "enumerate" := by rfl) (hs : starEach [e] X.env = (false, eval e X.env) :: starEach [] X.env := by rfl) :
    IsI X W (.Tuple elts kk tpos) (.Call (.Name "enumerate" p) [e] [] pos) (iEnX X.K t) (iEn f) := ⟨pi_enX h.pe hg hm hs, tok_enX h.ok⟩
end
end Den

namespace Den
open PySem PySem.Spec PyProof.Rows L2
open Evl (Ex)
/-! ### what a denotation comes to: loops -/
theorem loopD_inv {a : XV → Stt → Option Stt} {g : MS} (I : List D → Stt → Prop) (h : ∀ d ds q, I (d :: ds) q → ∃ q1 q2, a (.d d) q = some q1 ∧ g q1 = some (.nx q2) ∧ I ds q2) :
    ∀ (ds : List D) (q : Stt), I ds q → ∃ q', loopD a g ds q = some (.nx q') ∧ I [] q'
  | [], q, i => ⟨q, rfl, i⟩
  | d :: ds, q, i => by
    obtain ⟨q1, q2, h1, h2, h3⟩ := h d ds q i
    obtain ⟨q', h4, h5⟩ := loopD_inv I h ds q2 h3
    exact ⟨q', by simp only [loopD, h1, h2, h4], h5⟩
/-- a loop that carries one thing, folded -/
theorem loopD_fold {b : Type} {a : XV → Stt → Option Stt} {g : MS} (St : b → Stt → Prop) (f : b → D → b) (ok : D → Prop) (h : ∀ x d q, ok d → St x q → ∃ q1 q2, a (.d d) q = some q1 ∧ g q1 = some (.nx q2) ∧ St (f x d) q2) :
    ∀ (ds : List D) (x : b) (q : Stt), (∀ d ∈ ds, ok d) → St x q → ∃ q', loopD a g ds q = some (.nx q') ∧ St (ds.foldl f x) q'
  | [], x, q, _, i => ⟨q, rfl, i⟩
  | d :: ds, x, q, o, i => by
    obtain ⟨q1, q2, h1, h2, h3⟩ := h x d q (o d (by simp)) i
    obtain ⟨q', h4, h5⟩ := loopD_fold St f ok h ds (f x d) q2 (fun e m => o e (by simp [m])) h3
    exact ⟨q', by simp only [loopD, h1, h2, h4], h5⟩
theorem sFor_ok {fi : ME (List D)} {a : XV → Stt → Option Stt} {g : MS} {q q1 q2 : Stt} {ds : List D} (h1 : fi q = some (.ok ds, q1)) (h2 : loopD a g ds q1 = some (.nx q2)) : sFor fi a g q = some (.nx q2) := by
  simp only [sFor, sOf, h1, h2]
theorem sSeq_ok {g1 g2 : MS} {q q1 : Stt} (h : g1 q = some (.nx q1)) : sSeq g1 g2 q = g2 q1 := by
  simp only [sSeq, h]
theorem bnd_of {a b : Type} {f : ME a} {g : a → ME b} {q q1 : Stt} {x : a} {z : Option (Rs b)} (h : f q = some (.ok x, q1)) (k : g x q1 = z) : bnd f g q = z := by
  rw [bnd_ok h, k]
theorem eOp_ok {g : D → D → Option D} {f1 f2 : ME XV} {q q1 q2 : Stt} {x y z : D} (h1 : f1 q = some (.ok (.d x), q1)) (h2 : f2 q1 = some (.ok (.d y), q2)) (h3 : g x y = some z) : eOp g f1 f2 q = some (.ok (.d z), q2) := by
  simp only [eOp, bnd, h1, h2, op2, h3, lft, Option.map]
theorem eIx_ok {f1 f2 : ME XV} {q q1 q2 : Stt} {x y z : XV} (h1 : f1 q = some (.ok x, q1)) (h2 : f2 q1 = some (.ok y, q2)) (h3 : ixX q2.w x y = some z) : eIx f1 f2 q = some (.ok z, q2) := by
  simp only [eIx, bnd, h1, h2, h3, Option.map]
theorem ixX_d {w : List WO} {x y z : D} (h : ixD x y = some z) : ixX w (.d x) (.d y) = some (.d z) := by
  simp only [ixX, h, Option.map]
theorem eIx_d {f1 f2 : ME XV} {q q1 q2 : Stt} {x y z : D} (h1 : f1 q = some (.ok (.d x), q1)) (h2 : f2 q1 = some (.ok (.d y), q2)) (h3 : ixD x y = some z) : eIx f1 f2 q = some (.ok (.d z), q2) :=
  eIx_ok h1 h2 (ixX_d h3)
theorem aCons_ok {f : ME XV} {fa : ME (List XV)} {q q1 q2 : Stt} {x : XV} {xs : List XV} (h1 : f q = some (.ok x, q1)) (h2 : fa q1 = some (.ok xs, q2)) : aCons f fa q = some (.ok (x :: xs), q2) := by
  simp only [aCons, bnd, h1, h2, ret]
theorem eCB_ok {g : List D → Option D} {fa : ME (List XV)} {q q1 : Stt} {xs : List XV} {ds : List D} {z : D} (h : fa q = some (.ok xs, q1)) (h1 : allD xs = some ds) (h2 : g ds = some z) : eCB g fa q = some (.ok (.d z), q1) := by
  simp only [eCB, bnd, h, h1, h2, lft, Option.bind, Option.map]
theorem eCB1_ok {g : List D → Option D} {f : ME XV} {q q1 : Stt} {x z : D} (h : f q = some (.ok (.d x), q1)) (h2 : g [x] = some z) : eCB g (aCons f aNil) q = some (.ok (.d z), q1) :=
  eCB_ok (aCons_ok h rfl) rfl h2
theorem eCB2_ok {g : List D → Option D} {f1 f2 : ME XV} {q q1 q2 : Stt} {x y z : D} (h : f1 q = some (.ok (.d x), q1)) (h1 : f2 q1 = some (.ok (.d y), q2)) (h2 : g [x, y] = some z) : eCB g (aCons f1 (aCons f2 aNil)) q = some (.ok (.d z), q2) :=
  eCB_ok (aCons_ok h (aCons_ok h1 rfl)) rfl h2
theorem eCall_ok {n : Nat} {G : Fn} {fa : ME (List XV)} {q q1 : Stt} {xs : List XV} {z : XV} {w : List WO} (h : fa q = some (.ok xs, q1)) (hn : xs.length = n) (h2 : G xs q1.w = some (.ok z, w)) : eCall n G fa q = some (.ok z, { q1 with w := w }) := by
  simp only [eCall, bnd, h, if_pos hn, h2]
theorem eCall_w {n : Nat} {G : Fn} {fa : ME (List XV)} {q q1 : Stt} {xs : List XV} {z : XV} (h : fa q = some (.ok xs, q1)) (hn : xs.length = n) (h2 : G xs q1.w = some (.ok z, q1.w)) : eCall n G fa q = some (.ok z, q1) := eCall_ok h hn h2
theorem eL_ok {f : ME (List D)} {q q1 : Stt} {ds : List D} (h : f q = some (.ok ds, q1)) : eL f q = some (.ok (.d (.lst ds)), q1) := by
  simp only [eL, bnd, h, ret]
theorem lLst_ok {fa : ME (List XV)} {q q1 : Stt} {xs : List XV} {ds : List D} (h : fa q = some (.ok xs, q1)) (h1 : allD xs = some ds) (h2 : ds.length ≤ big) : lLst fa q = some (.ok ds, q1) := by
  simp only [lLst, bnd, h, h1, lft, Option.bind, if_pos h2]
theorem eTup_ok {fa : ME (List XV)} {q q1 : Stt} {xs : List XV} {ds : List D} (h : fa q = some (.ok xs, q1)) (h1 : allD xs = some ds) (h2 : ds.length ≤ big) : eTup fa q = some (.ok (.d (.tup ds)), q1) := by
  simp only [eTup, bnd, h, h1, lft, Option.bind, if_pos h2]
theorem eUn_ok {g : D → Option D} {f : ME XV} {q q1 : Stt} {x z : D} (h : f q = some (.ok (.d x), q1)) (h2 : g x = some z) : eUn g f q = some (.ok (.d z), q1) := by
  simp only [eUn, bnd, h, lft, h2, Option.map]
theorem tOf_ok {f : ME XV} {q q1 : Stt} {b : Bool} (h : f q = some (.ok (.d (.bl b)), q1)) : tOf f q = some (.ok b, q1) := by
  simp only [tOf, bnd, h, lft, toB]
theorem iOf_ok {f : ME XV} {q q1 : Stt} {x : XV} {ds : List D} (h : f q = some (.ok x, q1)) (h2 : seqD x = some ds) : iOf f q = some (.ok ds, q1) := by
  simp only [iOf, bnd, h, lft, h2]
theorem sOf_ok {a : Type} {f : ME a} {k : a → Stt → Option Fl} {q q1 : Stt} {x : a} (h : f q = some (.ok x, q1)) : sOf f k q = k x q1 := by
  simp only [sOf, h]
theorem sAsg_ok {f : ME XV} {a : XV → Stt → Option Stt} {q q1 q2 : Stt} {x : XV} (h : f q = some (.ok x, q1)) (h2 : a x q1 = some q2) : sAsg f a q = some (.nx q2) := by
  simp only [sAsg, sOf, h, h2, Option.map]
theorem sDrop_ok {f : ME XV} {q q1 : Stt} {x : XV} (h : f q = some (.ok x, q1)) : sDrop f q = some (.nx q1) := by
  simp only [sDrop, sOf, h]
theorem sRet_ok {f : ME XV} {q q1 : Stt} {x : XV} (h : f q = some (.ok x, q1)) : sRet f q = some (.rt x q1) := by
  simp only [sRet, sOf, h]
theorem sIf_t {gt : ME Bool} {g1 g2 : MS} {q q1 : Stt} {z : Option Fl} (h : gt q = some (.ok true, q1)) (k : g1 q1 = z) : sIf gt g1 g2 q = z := by
  simp only [sIf, sOf, h]
  exact k
theorem sIf_f {gt : ME Bool} {g1 g2 : MS} {q q1 : Stt} {z : Option Fl} (h : gt q = some (.ok false, q1)) (k : g2 q1 = z) : sIf gt g1 g2 q = z := by
  simp only [sIf, sOf, h]
  exact k
theorem sSeq_to {g1 g2 : MS} {q q1 : Stt} {z : Option Fl} (h : g1 q = some (.nx q1)) (k : g2 q1 = z) : sSeq g1 g2 q = z := by
  simp only [sSeq, h, k]
theorem fnG_rt {n : Nat} {g : MS} {xs : List XV} {w : List WO} {x : XV} {q : Stt} (h : g (fnQ n xs w) = some (.rt x q)) : fnG n g xs w = some (.ok x, q.w) := by
  simp only [fnG, h]
theorem eM1V_ok {g : List D → D → Option (D × List D)} {i : Nat} {f : ME XV} {q q1 : Stt} {d0 ds es : List D} {x y : D} (h0 : q.sl[i]? = some (.ol d0)) (h : f q = some (.ok (.d x), q1)) (h1 : q1.sl[i]? = some (.ol ds)) (h2 : g ds x = some (y, es)) :
    eM1V g i f q = some (.ok (.d y), { q1 with sl := q1.sl.set i (.ol es) }) := by
  simp only [eM1V, h0, bnd, h, h1, h2, Option.map]
theorem gApp_ok {ds : List D} {d : D} (h : ds.length < big) : gApp ds d = some (.non, ds ++ [d]) := by
  rw [gApp, if_pos h]
theorem sSetL_ok {f : ME (List D)} {i : Nat} {q q1 : Stt} {ds : List D} (h : f q = some (.ok ds, q1)) (hi : i < q1.sl.length) : sSetL f i q = some (.nx { q1 with sl := q1.sl.set i (.ol ds) }) := by
  simp only [sSetL, sOf, h, if_pos hi]
theorem rng_in {n : Nat} (hn : n ≤ 100000) : -(2 ^ 62) ≤ (n : Int) ∧ (n : Int) < 2 ^ 62 := by
  have h62 : (2 : Int) ^ 62 = 4611686018427387904 := by decide
  rw [h62]
  exact ⟨by omega, by omega⟩
theorem rng1_ok {n : Nat} (hn : n ≤ 100000) : rng1 [.d (.int n)] = some (iota 0 n) := by
  have e : rng1 [.d (.int n)] = if -(2 ^ 62) ≤ (n : Int) ∧ (n : Int) < 2 ^ 62 then some (iota 0 (Int.toNat n)) else none := by
    unfold rng1
    rfl
  rw [e, if_pos (rng_in hn), Int.toNat_natCast]
theorem rng_len {e : ME XV} {q q1 : Stt} {n : Nat} (h : e q = some (.ok (.d (.int n)), q1)) (hn : n ≤ 100000) : (bnd (aCons e aNil) fun xs => lft (rng1 xs)) q = some (.ok (iota 0 n), q1) := by
  have e1 : lft (rng1 [.d (.int n)]) q1 = some (.ok (iota 0 n), q1) := by
    rw [rng1_ok hn]
    rfl
  exact bnd_of (g := fun xs => lft (rng1 xs)) (aCons_ok h rfl) e1
/-- a comprehension whose parts leave all else as it is -/
theorem lcLoop_map {vs : List Nat} {a : XV → Stt → Option Stt} {gt : ME Bool} {fe : ME XV} {F : D → D} {q : Stt} : ∀ (ds acc : List D), (∀ d ∈ ds, ∃ q1 q2 q3, a (.d d) q = some q1 ∧ gt q1 = some (.ok true, q2) ∧ fe q2 = some (.ok (.d (F d)), q3) ∧ wipeQ q3 vs = q) →
    acc.length + ds.length ≤ big → lcLoop vs a gt fe ds acc q = some (acc ++ ds.map F, q)
  | [], acc, _, _ => by simp [lcLoop]
  | d :: ds, acc, h, hl => by
    obtain ⟨q1, q2, q3, h1, h2, h3, h4⟩ := h d (by simp)
    have hl' : acc.length < big := by simp at hl; omega
    have ih := lcLoop_map (vs := vs) (a := a) (gt := gt) (fe := fe) (F := F) (q := q) ds (acc ++ [F d]) (fun e m => h e (by simp [m])) (by simp at hl ⊢; omega)
    simp only [lcLoop, h1, h2, h3, h4, if_pos hl', ih]
    simp
theorem lLc_map {vs : List Nat} {fi : ME (List D)} {a : XV → Stt → Option Stt} {gt : ME Bool} {fe : ME XV} (F : D → D) {q q0 : Stt} {ds : List D} (hf : fi q = some (.ok ds, q0)) (hl : ds.length ≤ big)
    (h : ∀ d ∈ ds, ∃ q1 q2 q3, a (.d d) (wipeQ q0 vs) = some q1 ∧ gt q1 = some (.ok true, q2) ∧ fe q2 = some (.ok (.d (F d)), q3) ∧ wipeQ q3 vs = wipeQ q0 vs) (hb : backQ q0 (wipeQ q0 vs) vs = q0) :
    lLc vs fi a gt fe q = some (.ok (ds.map F), q0) := by
  have e := lcLoop_map (vs := vs) (a := a) (gt := gt) (fe := fe) (F := F) (q := wipeQ q0 vs) ds [] h (by simpa using hl)
  simp only [lLc, bnd, hf, e, hb, List.nil_append]
theorem lLc_pure {vs : List Nat} {fi : ME (List D)} {a : XV → Stt → Option Stt} {fe : ME XV} (F : D → D) {q q0 : Stt} {ds : List D} (hf : fi q = some (.ok ds, q0)) (hl : ds.length ≤ big) (hb : backQ q0 (wipeQ q0 vs) vs = q0)
    (h : ∀ d ∈ ds, ∃ q1, a (.d d) (wipeQ q0 vs) = some q1 ∧ wipeQ q1 vs = wipeQ q0 vs ∧ fe q1 = some (.ok (.d (F d)), q1)) :
    lLc vs fi a (ret true) fe q = some (.ok (ds.map F), q0) :=
  lLc_map F hf hl (fun d m => let ⟨q1, h1, h2, h3⟩ := h d m; ⟨q1, q1, q1, h1, rfl, h3, h2⟩) hb
/-- a comprehension that tells of each item only that -/
theorem lcLoop_rel {vs : List Nat} {a : XV → Stt → Option Stt} {gt : ME Bool} {fe : ME XV} (R : D → Prop) (P : Stt → Prop) : ∀ (ds acc : List D) (q : Stt), (∀ d ∈ ds, ∀ q, P q → ∃ q1 q2 q3 x, a (.d d) q = some q1 ∧ gt q1 = some (.ok true, q2) ∧ fe q2 = some (.ok (.d x), q3) ∧ R x ∧ P (wipeQ q3 vs)) →
    acc.length + ds.length ≤ big → P q → ∃ xs q', lcLoop vs a gt fe ds acc q = some (acc ++ xs, q') ∧ xs.length = ds.length ∧ (∀ x ∈ xs, R x) ∧ P q'
  | [], acc, q, _, _, p => ⟨[], q, by simp [lcLoop], rfl, by simp, p⟩
  | d :: ds, acc, q, h, hl, p => by
    obtain ⟨q1, q2, q3, x, h1, h2, h3, h4, h5⟩ := h d (by simp) q p
    have hl' : acc.length < big := by simp at hl; omega
    obtain ⟨xs, q', e, n, r, p'⟩ := lcLoop_rel (vs := vs) (a := a) (gt := gt) (fe := fe) R P ds (acc ++ [x]) (wipeQ q3 vs) (fun e m => h e (by simp [m])) (by simp at hl ⊢; omega) h5
    refine ⟨x :: xs, q', ?_, by simp [n], by simpa using ⟨h4, r⟩, p'⟩
    simp only [lcLoop, h1, h2, h3, if_pos hl', e]
    simp
theorem lLc_rel {vs : List Nat} {fi : ME (List D)} {a : XV → Stt → Option Stt} {gt : ME Bool} {fe : ME XV} (R : D → Prop) (P : Stt → Prop) {q q0 : Stt} {ds : List D} (hf : fi q = some (.ok ds, q0)) (hl : ds.length ≤ big)
    (h : ∀ d ∈ ds, ∀ q, P q → ∃ q1 q2 q3 x, a (.d d) q = some q1 ∧ gt q1 = some (.ok true, q2) ∧ fe q2 = some (.ok (.d x), q3) ∧ R x ∧ P (wipeQ q3 vs)) (h0 : P (wipeQ q0 vs)) :
    ∃ xs q', lLc vs fi a gt fe q = some (.ok xs, backQ q0 q' vs) ∧ xs.length = ds.length ∧ (∀ x ∈ xs, R x) ∧ P q' := by
  obtain ⟨xs, q', e, n, r, p'⟩ := lcLoop_rel (vs := vs) (a := a) (gt := gt) (fe := fe) R P ds [] (wipeQ q0 vs) h (by simpa using hl) h0
  refine ⟨xs, q', ?_, n, r, p'⟩
  simp only [lLc, bnd, hf, e, List.nil_append]
/-! ### lists of numbers -/
def il (l : List Int) : List D := l.map .int
theorem il_len {l : List Int} : (il l).length = l.length := by simp [il]
theorem atI_nat {α : Type} {xs : List α} {i : Int} (h0 : 0 ≤ i) (h1 : i < xs.length) : atI xs i = xs[i.toNat]? := by
  have e : ixN xs.length i = some i.toNat := by
    unfold ixN
    simp [h0, h1]
  simp [atI, e]
theorem atI_il {l : List Int} {i : Int} (h0 : 0 ≤ i) (h1 : i < l.length) : atI (il l) i = some (.int (l.getD i.toNat 0)) := by
  rw [atI_nat h0 (by simpa [il_len] using h1)]
  have h2 : i.toNat < l.length := by omega
  simp [il, h2]
theorem intsD_il {l : List Int} : intsD (il l) = some l := by
  induction l with
  | nil => rfl
  | cons x l ih =>
    show (intsD (il l)).map (x :: ·) = _
    rw [ih]
    rfl
end Den

namespace Den
open PySem PySem.Spec PyProof.Rows L2
open Evl (Ex)
/-! ### type(x); whether two classes are one -/
def tyE : D → Option String
  | .seq _ => some "list"
  | d => tyD d
section
variable {K : PySem.W.Frag} {F S H : Hp} {r : List Addr} {σ : L2.St} {q : Stt}
theorem tyB_of (E : Ex S H) {x : D} {v : V} {a : String} (h : tyE x = some a) (rx : RepH K S H x v) : TyB K H v a := by
  cases x with
  | non => cases h; rw [rh_non rx]; exact .non
  | bl b => cases h; rw [rh_bl rx]; exact .bl b
  | int b => cases h; rw [rh_int rx]; exact .int b
  | str b => cases h; rw [rh_str rx]; exact .str b
  | tup ds =>
    cases h
    obtain ⟨a, vs, rfl, h1, _⟩ := rh_tup E rx
    exact .tup h1
  | lst ds =>
    cases h
    obtain ⟨a, vs, rfl, h1, _⟩ := rx
    exact .lst (SqL.of h1)
  | seq ds =>
    cases h
    have rx' : Rep K S (.seq ds) v := rx
    rw [Rep] at rx'
    obtain ⟨a, vs, rfl, h1, _⟩ := rx'
    exact .lst (Evl.ex_l E h1)
  | dic ks ds =>
    cases h
    obtain ⟨a, vs, rfl, h1, _⟩ := rx
    exact .dK h1
  | _ => cases h
def gType : List D → Option D
  | [x] => (tyE x).map .ty
  | _ => none
theorem rc_type : RCok K (rTyp K) gType := by
  intro F S H r σ q ds z vs E rp hz Q k
  unfold gType at hz
  split at hz
  · rename_i x
    cases e : tyE x with
    | none => rw [e] at hz; cases hz
    | some a =>
      rw [e] at hz
      cases hz
      obtain ⟨v, rfl, h⟩ := one_rep (F := H) rp
      exact ⟨v, a, rfl, tyB_of E.sub e h, k _ S H (Ex.refl _) E rp_ty⟩
  · cases hz
def gIsT : D → D → Option D
  | .ty a, .ty b => some (.bl (decide (a = b)))
  | _, _ => none
def gNotT : D → D → Option D
  | .ty a, .ty b => some (.bl (!decide (a = b)))
  | _, _ => none
theorem r2_isT : R2ok K (fun x y H Q => ∃ a b, x = .ty a ∧ y = .ty b ∧ Q (.bl (decide (a = b))) H) gIsT := by
  intro F S H r σ q x y z vx vy E rx ry hz Q k
  unfold gIsT at hz
  split at hz
  · cases hz
    exact ⟨_, _, rh_ty rx, rh_ty ry, k _ S H (Ex.refl _) E rp_bl⟩
  · cases hz
theorem r2_notT : R2ok K rNT gNotT := by
  intro F S H r σ q x y z vx vy E rx ry hz Q k
  unfold gNotT at hz
  split at hz
  · cases hz
    exact ⟨_, _, rh_ty rx, rh_ty ry, k _ S H (Ex.refl _) E rp_bl⟩
  · cases hz
/-! ### tuple * int -/
def gMulX : D → D → Option D
  | .tup ds, .int k => if ds ≠ [] ∧ 2 ≤ k ∧ k ≤ 1000 ∧ ds.length ≤ 1000 then some (.tup (List.replicate k.toNat ds).flatten) else none
  | x, y => gMul x y
theorem rep_times {ds : List D} {vs : List V} (h : RepL K S ds vs) : ∀ n : Nat, RepL K S (List.replicate n ds).flatten (List.replicate n vs).flatten
  | 0 => RepL.nil
  | n + 1 => by
    rw [List.replicate_succ, List.replicate_succ, List.flatten_cons, List.flatten_cons]
    exact h.append (rep_times h n)
def rMulX (K : PySem.W.Frag) : R2 := r2Or (rI CMul fun i j => .int (i * j)) (rRepT K)
theorem r2_mulX : R2ok K (rMulX K) gMulX := by
  intro F S H r σ q x y z vx vy E rx ry hz Q k
  unfold gMulX at hz
  split at hz
  · rename_i ds i
    obtain ⟨⟨h0, h1, h2, h3⟩, e⟩ := ifs hz
    subst e
    obtain ⟨a, vs, rfl, h4, h4', h5⟩ := rh_tup E.sub rx
    refine .inr ⟨a, i, vs, rfl, rh_int ry, h4, fun e => h0 ?_, h1, h2, by rw [← h5.length]; exact h3, fun p hp => ?_⟩
    · have hl := h5.length
      rw [e] at hl
      exact List.eq_nil_of_length_eq_zero hl
    · obtain ⟨S', ex, E', rp⟩ := new_tup E hp (rep_times h5 i.toNat)
      exact k _ S' _ ex E' rp
  · exact .inl (r2_mul F S H r σ q _ _ z vx vy E rx ry hz Q k)
end
section
variable {X : Cx} {W : WX} {e e1 e2 e3 : Expr} {t t1 t2 t3 : TE} {f f1 f2 f3 : ME XV} {pos p : Pos} {K : PySem.W.Frag} {fl : ME (List D)}
theorem op_mulX : OpR X (binaryOp .Mult) (rMulX X.K) := OpR.or op_mul op_repT
theorem is_mulX (h1 : IsE X W e1 t1 f1) (h2 : IsE X W e2 t2 f2) : IsE X W (.BinOp e1 .Mult e2 pos) (tOp (rMulX X.K) t1 t2) (eOp gMulX f1 f2) := is_op op_mulX r2_mulX h1 h2
theorem is_type (hm : X.mg "type" = none) (h : IsE X W e t f) (hg : Gl X "type" := by rfl) (he : starEach [e] X.env = (false, eval e X.env) :: starEach [] X.env := by rfl) : IsE X W (.Call (.Name "type" p) [e] [] pos) (tCB (rTyp X.K) (tCons t tNil)) (eCB gType (aCons f aNil)) :=
  is_cty call_type1 rc_type hg hm (by decide +kernel) (is_acons h is_anil he) (he := he)
/-- a number of the module -/
theorem is_glob {x : Str} {i : Int} (hm : ∃ u, X.mg x = some (.int i u)) (hg : Gl X x := by rfl) (hd : (x == ("__debug__" : Str)) = false := by decide) : IsE X W (.Name x pos) (tC (.int i)) (eC (.int i)) := by
  obtain ⟨u, hm⟩ := hm
  exact ⟨pe_glob hg hm ⟨_, rfl⟩ hd, tok_c fun S => rp_int⟩
/-! ### a < b < c -/
def eChain (g g' : D → D → Option D) (f1 f2 f3 : ME XV) : ME XV := bnd f1 fun x => bnd f2 fun y => bnd (lft ((op2 g x y).bind toB)) fun b => if b then bnd f3 fun w => lft (op2 g' y w) else ret (.d (.bl false))
theorem op2_d {g : D → D → Option D} {x y z : XV} (h : op2 g x y = some z) : ∃ a b c, x = .d a ∧ y = .d b ∧ z = .d c ∧ g a b = some c := by
  cases x with
  | h n => cases h
  | d a =>
    cases y with
    | h n => cases h
    | d b =>
      have h' : (g a b).map XV.d = some z := h
      cases e : g a b with
      | none => rw [e] at h'; cases h'
      | some c =>
        rw [e] at h'
        cases h'
        exact ⟨a, b, c, rfl, rfl, rfl, e⟩
theorem tok_chain {r2 r2' : R2} {g g' : D → D → Option D} (hr : R2ok K r2 g) (hr' : R2ok K r2' g') (h1 : Tok (RX K) K W t1 f1) (h2 : Tok (RX K) K W t2 f2) (h3 : Tok (RX K) K W t3 f3) : Tok (RX K) K W (tChain r2 r2' t1 t2 t3) (eChain g g' f1 f2 f3) := by
  intro F S H r σ q z E hz Q P
  show t1 σ H (fun x H1 => t2 σ H1 fun y H2 => r2 x y H2 fun z H3 => ∃ k, z = V.bl k ∧ (if k = true then t3 σ H3 fun w' H4 => r2' y w' H4 Q else Q (.bl false) H3))
  refine run_at (rep2 := RX K) h1 E hz P fun x v S1 H1 r1 q1 ex1 k1 E1 rx hz P => ?_
  refine run_at (rep2 := RX K) h2 E1 hz P fun y u S2 H2 r2 q2 ex2 k2 E2 ry hz P => ?_
  rw [bnd_eq] at hz
  cases e1 : op2 g x y with
  | none => rw [e1] at hz; cases hz
  | some w =>
    obtain ⟨a, b, c, rfl, rfl, rfl, hg⟩ := op2_d e1
    rw [e1] at hz
    have rx2 : Rep K S2 a v := Rep.mono ex2 _ _ rx
    have ry2 : Rep K S2 b u := ry
    refine hr F S2 H2 r2 σ q2 a b c v u E2 (Rep.toH E2.sub rx2) (Rep.toH E2.sub ry2) hg _ fun v' S3 H3 ex3 E3 rz => ?_
    cases c with
    | bl k =>
      rw [Rep] at rz
      subst rz
      refine ⟨k, rfl, ?_⟩
      cases k with
      | true =>
        have hz' : bnd f3 (fun w => lft (op2 g' (.d b) w)) q2 = some z := hz
        refine iteT ?_
        refine run_at (rep2 := RX K) h3 E3 hz' (P.mono ex3 (Rle.refl _)) fun w vw S4 H4 r4 q4 ex4 k4 E4 rw4 hz P => ?_
        cases e2 : op2 g' (.d b) w with
        | none => rw [e2] at hz; cases hz
        | some w2 =>
          obtain ⟨a', b', c', e3, rfl, rfl, hg'⟩ := op2_d e2
          cases e3
          rw [e2] at hz
          cases hz
          have ry4 : Rep K S4 b u := Rep.mono (ex3.trans ex4) _ _ ry2
          have rw5 : Rep K S4 b' vw := rw4
          exact hr' F S4 H4 r4 σ q4 b b' c' u vw E4 (Rep.toH E4.sub ry4) (Rep.toH E4.sub rw5) hg' _ fun v5 S5 H5 ex5 E5 r5 => P _ S5 H5 r4 ex5 (Rle.refl _) E5 r5
      | false =>
        have hz' : some ((Except.ok (XV.d (.bl false)), q2) : Rs XV) = some z := hz
        cases hz'
        exact iteF (P _ S3 H3 r2 ex3 (Rle.refl _) E3 (show Rep K S3 (.bl false) _ from rp_bl))
    | _ => cases hz
theorem is_chain {op op' : CmpOp} {r2 r2' : R2} {g g' : D → D → Option D} (ho : OpR X (compareOp op) r2) (hr : R2ok X.K r2 g) (ho' : OpR X (compareOp op') r2') (hr' : R2ok X.K r2' g') (h1 : IsE X W e1 t1 f1) (h2 : IsE X W e2 t2 f2) (h3 : IsE X W e3 t3 f3)
    (hm : lastMarks [op, op'] [e2, e3] = false := by with_unfolding_all rfl) : IsE X W (.Compare e1 [op, op'] [e2, e3] pos) (tChain r2 r2' t1 t2 t3) (eChain g g' f1 f2 f3) := ⟨pe_chain ho ho' h1.pe h2.pe h3.pe hm, tok_chain hr hr' h1.ok h2.ok h3.ok⟩
theorem is_tchain {op op' : CmpOp} {r2 r2' : R2} {g g' : D → D → Option D} (ho : OpR X (compareOp op) r2) (hr : R2ok X.K r2 g) (ho' : OpR X (compareOp op') r2') (hr' : R2ok X.K r2' g') (h1 : IsE X W e1 t1 f1) (h2 : IsE X W e2 t2 f2) (h3 : IsE X W e3 t3 f3)
    (hm : lastMarks [op, op'] [e2, e3] = false := by with_unfolding_all rfl) : IsT X W (.Compare e1 [op, op'] [e2, e3] pos) (tTest (tChain r2 r2' t1 t2 t3)) (tOf (eChain g g' f1 f2 f3)) := ⟨pt_chain ho ho' h1.pe h2.pe h3.pe hm, tok_test (tok_chain hr hr' h1.ok h2.ok h3.ok)⟩
end
end Den

namespace Den
open PySem PySem.Spec PyProof.Rows L2
open Evl (Ex)
/-! ### defs that may raise -/
def fnX (n : Nat) (g : MS) : Fn := fun xs w => match g (fnQ n xs w) with
  | some (.nx q) => some (.ok (.d .non), q.w)
  | some (.rt x q) => some (.ok x, q.w)
  | some (.ex c q) => some (.error c, q.w)
  | _ => none
section
variable {P : Program} {w : World} {K : PySem.W.Frag} {mg : Str → Option Value} {base : Heap}
theorem fn_okX {x qual : Str} {st : Stmt} {f : Addr} {fd : FuncData} {N ps : List Str} {k : Nat} {g : MS} (F : Fun K x qual st f fd) (S : FnScope N ps (defScope st))
    (hb : ∀ (cdv : Value) (A : Around) (outer : List PySem.Env) (s : Shared) (H : Hp) (E : XK), Room k (A.deeper (envOfC qual (defScope st) s.heap.objs.size f cdv)) → ∃ t, IsB (cxOf (L2.CX P w) P w K mg base N qual (defScope st) f cdv A outer s H E) (fun c d _ H' => E c d H') (defBody st) t g) :
    FnOk P w K mg base (L2.CX P w) (k + 1) f fd ps (spF K ps.length (fnX N.length g)) := by
  refine F.okX S (fun vs H Q E h => h.1) (fun cdv A outer s H vs Q E hr h => ?_)
  obtain ⟨hl, F', S', r, xs, w', z, E0, rx, hg, hP⟩ := h
  obtain ⟨t, hB⟩ := hb cdv A outer s H E hr
  refine ⟨t, hB.ps, ?_⟩
  have E1 := E0.enter N.length rx
  unfold fnX at hg
  cases eg : g (fnQ N.length xs w') with
  | none => rw [eg] at hg; cases hg
  | some fl =>
    rw [eg] at hg
    cases fl with
    | nx q =>
      cases hg
      exact hB.ok F' S' H r _ _ _ E1 eg _ fun σ2 S2 H2 r2 e2 k2 E2 => hP .non S2 H2 r2 e2 k2 E2.low (show Rep K S2 .non .non from rp_non)
    | rt x q =>
      cases hg
      exact hB.ok F' S' H r _ _ _ E1 eg _ fun v σ2 S2 H2 r2 e2 k2 E2 rx2 => hP v S2 H2 r2 e2 k2 E2.low rx2
    | bk q => cases hg
    | ct q => cases hg
    | ex c q =>
      cases hg
      exact hB.ok F' S' H r _ _ _ E1 eg _ fun σ2 S2 H2 r2 e2 k2 E2 => hP S2 H2 r2 e2 k2 E2.low
end
/-- a def of the text that may raise -/
structure DefX (P : Program) (w : World) (K : PySem.W.Frag) (mg : Str → Option Value) (base : Heap) (name : Str) (k n : Nat) (G : Fn) : Prop where
  ex : ∃ (f : Addr) (fd : FuncData) (ps : List Str), mg name = some (.ref f) ∧ PySem.W.keepIn K (.ref f) = true ∧ Binds K fd ps [] ∧ FnOk P w K mg base (L2.CX P w) k f fd ps (spF K n G)
section
variable {X : Cx} {W : WX} {e e1 e2 : Expr} {es : List Expr} {ta : TA} {fa : ME (List XV)} {pos p : Pos} {t t1 t2 : TE} {f f1 f2 : ME XV}
theorem is_callDX {name : Str} {k n : Nat} {G : Fn} (d : DefX X.prog X.w X.K X.mg X.base name k n G) (hr : Room k X.A) (tk : Takes X W) (ha : IsA X W (e :: es) ta fa) (hg : Gl X name := by rfl) (hdb : (name == ("__debug__" : Str)) = false := by decide)
    (he : starEach (e :: es) X.env = (false, eval e X.env) :: starEach es X.env := by rfl) (hpl : (backTo pos (starEach es X.env)).any (·.1) = false := by rfl) : IsE X W (.Call (.Name name p) (e :: es) [] pos) (tCallS (spF X.K n G) (WE W) ta) (eCall n G fa) := by
  obtain ⟨f, fd, ps, hm, hk, hb, F⟩ := d.ex
  exact is_callX F hr hg hm hk hb tk ha hdb he hpl
theorem def_okX {P : Program} {w : World} {K : PySem.W.Frag} {mg : Str → Option Value} {base : Heap} {x qual : Str} {st : Stmt} {fA : Addr} {fd : FuncData} {N ps : List Str} {k n : Nat} {g : MS} (F : Fun K x qual st fA fd) (hm : mg x = some (.ref fA)) (b : Binds K fd ps []) (S : FnScope N ps (defScope st)) (hn : ps.length = n)
    (hb : ∀ (cdv : Value) (A : Around) (outer : List PySem.Env) (s : Shared) (H : Hp) (E : XK), Room k (A.deeper (envOfC qual (defScope st) s.heap.objs.size fA cdv)) → ∃ t, IsB (cxOf (L2.CX P w) P w K mg base N qual (defScope st) fA cdv A outer s H E) (fun c d _ H' => E c d H') (defBody st) t g) :
    DefX P w K mg base x (k + 1) n (fnX N.length g) := ⟨⟨fA, fd, ps, hm, F.kp, b, by rw [← hn]; exact fn_okX F S hb⟩⟩
/-- an exception class of the text, over ValueError, without an __init__ of its own -/
structure XCls (K : PySem.W.Frag) (mg : Str → Option Value) (x : Str) (C : Addr) : Prop where
  gC : mg x = some (.ref C)
  xP : PySem.W.excIn K C [.type "ValueError", .type "Exception", .type "BaseException", .type "object"] "ValueError.__new__" = true
  kP : PySem.W.keepIn K (.ref C) = true
  bP : PySem.W.subIn K (.ref C) (.type "BaseException") = some true
  tP : PySem.W.typeIn K (.ref C) = some (.type "type")
def sRaise (c : Value) : MS := fun q => some (.ex c q)
theorem is_raise {x m : Str} {j : Nat} {p2 pos2 : Pos} {C : Addr} (T : XCls X.K X.mg x C) (tk : Takes X W) (hc : X.calm = true := by rfl) (hg : Gl X x := by rfl) (hdb : (x == ("__debug__" : Str)) = false := by decide) :
    IsS X W (.Raise (some (.Call (.Name x p) [.Constant (.str m) j p2] [] pos2)) none pos) (fun _ σ H => W (.ref C) none σ H) (sRaise (.ref C)) := by
  refine ⟨ps_raise hc tk (pmk_own PySem.F.excBase_ValueError T.xP T.gC T.kP (raises_own T.bP T.tP) hg hdb), fun F S H r σ q z E hz d P => ?_⟩
  cases hz
  exact P σ S H r (Ex.refl _) (Rle.refl _) E
end
end Den

namespace Den
open PySem PySem.Spec PyProof.Rows L2
open Evl (Ex)
/-! ### len(set(t)), t a tuple of whole numbers -/
def uniq : List Int → List Int
  | [] => []
  | x :: xs => if x ∈ xs then uniq xs else x :: uniq xs
theorem uniq_mem : ∀ (l : List Int) (k : Int), k ∈ uniq l ↔ k ∈ l
  | [], k => Iff.rfl
  | x :: xs, k => by
    unfold uniq
    by_cases h : x ∈ xs
    · rw [if_pos h, uniq_mem xs k, List.mem_cons]
      exact ⟨.inr, fun z => z.elim (fun e => e ▸ h) id⟩
    · rw [if_neg h, List.mem_cons, List.mem_cons, uniq_mem xs k]
theorem uniq_nd : ∀ l : List Int, (uniq l).Nodup
  | [] => List.Pairwise.nil
  | x :: xs => by
    unfold uniq
    by_cases h : x ∈ xs
    · rw [if_pos h]
      exact uniq_nd xs
    · rw [if_neg h]
      exact List.nodup_cons.mpr ⟨fun z => h ((uniq_mem xs x).mp z), uniq_nd xs⟩
theorem nd_le : ∀ {a b : List Int}, a.Nodup → (∀ k ∈ a, k ∈ b) → a.length ≤ b.length
  | [], _, _, _ => Nat.zero_le _
  | x :: a, b, hn, hs => by
    have hx : x ∈ b := hs x (by simp)
    obtain ⟨h1, h2⟩ := List.nodup_cons.mp hn
    have ih := nd_le (b := b.erase x) h2 fun k hk => (List.mem_erase_of_ne (by intro e; subst e; exact h1 hk)).mpr (hs k (by simp [hk]))
    rw [List.length_erase_of_mem hx] at ih
    have hp := List.length_pos_of_mem hx
    simp
    omega
theorem uniq_len {a l : List Int} (hn : a.Nodup) (h : ∀ k, k ∈ l ↔ k ∈ a) : a.length = (uniq l).length :=
  Nat.le_antisymm (nd_le hn fun k hk => (uniq_mem l k).mpr ((h k).mpr hk)) (nd_le (uniq_nd l) fun k hk => (h k).mp ((uniq_mem l k).mp hk))
def rLenSet (K : PySem.W.Frag) : V → Hp → VK → Prop := fun x H Q => ∃ (l : Addr) (ns : List Int), x = V.ref l ∧ SqT K H l (ns.map V.int) ∧ ns.length ≤ 1000 ∧ Q (.int (uniq ns).length) H
def tLenSet (K : PySem.W.Frag) (ta : TE) : TE := fun σ H Q => ta σ H fun x H1 => rLenSet K x H1 Q
section
variable {X : Cx} {W : WX} {e : Expr} {t : TE} {f : ME XV} {K : PySem.W.Frag} {p p2 q pos : Pos}
theorem pe_lenSetT (hc : X.calm = true) (hg : Gl X "len") (hm : X.mg "len" = none) (hg2 : Gl X "set") (hm2 : X.mg "set" = none) (h : PE X e t) (na : starEach [e] X.env = (false, eval e X.env) :: starEach [] X.env := by rfl) :
    PE X (.Call (.Name "len" p) [.Call (.Name "set" p2) [e] [] q] [] pos) (tLenSet X.K t) := by
  constructor
  intro pins s σ H Q I hq
  refine Call_ (ld_blt I hg hm PySem.boot_len (PyProof.Rows.callWith_builtin1 (PyProof.Rows.args_cons (Call_ (ld_blt I hg2 hm2 PyProof.Rows.boot_set (PyProof.Rows.callWith_type1 (PyProof.Rows.args_cons (thn (h.run pins s σ H _ I hq) fun v z ⟨x, H1, I1, rx, hx⟩ => PyProof.Rows.args_nil ?_) na) na rfl))) rfl) rfl rfl))
  obtain ⟨l, ns, rfl, hT, hb, hx⟩ := hx
  obtain rfl : v = Value.ref l := rx
  obtain ⟨its, rv, pt, _⟩ := I1.tuple hT
  have hi : IntsAre its.toArray.toList ns := ints_of_vals rv
  have hb' : ns.length + 1 < scanBound := by unfold scanBound; omega
  refine call_set_tupI ns (I1.ok.hd hc) (show z.heap.IsTuple l its.toArray from pt) hi hb' fun h2 tk c R _ k => PyProof.Rows.args_nil ?_
  obtain ⟨o, es, ep, tt, ho, hex, hd, _, nd, hmm, hs, hf, _, _, _⟩ := R
  have en : es.size = (uniq ns).length := by
    have e1 := uniq_len (l := ns) nd fun k => by rw [← hmm k, decide_eq_true_eq]
    rw [List.length_map, Array.length_toList] at e1
    exact e1
  have I2 : Inv X pins σ H1 { z with heap := h2, toks := tk } := I1.kept k
  exact call_len_set ho hex hd hf (by unfold scanBound at hs; omega) ⟨.int (uniq ns).length, H1, I2.tok _, ⟨_, by rw [en]⟩, hx⟩
def gLenSet : List D → Option D
  | [.tup ds] => (intsD ds).bind fun ns => if ns.length ≤ 1000 then some (.int (uniq ns).length) else none
  | _ => none
def eLenSet (f : ME XV) : ME XV := bnd f fun x => lft (match x with | .d d => (gLenSet [d]).map .d | _ => none)
theorem is_lenSet (hm : X.mg "len" = none) (hm2 : X.mg "set" = none) (h : IsE X W e t f) (hc : X.calm = true := by rfl) (hg : Gl X "len" := by rfl) (hg2 : Gl X "set" := by rfl) (na : starEach [e] X.env = (false, eval e X.env) :: starEach [] X.env := by rfl) :
    IsE X W (.Call (.Name "len" p) [.Call (.Name "set" p2) [e] [] q] [] pos) (tLenSet X.K t) (eLenSet f) := by
  refine ⟨pe_lenSetT hc hg hm hg2 hm2 h.pe na, Tok.bind (t2 := fun x σ H Q => rLenSet X.K x H Q) h.ok fun x v F S H r σ q z E rx hz Q P => ?_⟩
  cases x with
  | h n => cases hz
  | d x =>
    cases x with
    | tup ds =>
      have rx' : Rep X.K S (.tup ds) v := rx
      rw [Rep] at rx'
      obtain ⟨a, vs, rfl, h1, h2⟩ := rx'
      cases e1 : intsD ds with
      | none =>
        have hz' : lft (((intsD ds).bind fun ns => if ns.length ≤ 1000 then some (D.int (uniq ns).length) else none).map XV.d) q = some z := hz
        rw [e1] at hz'
        cases hz'
      | some ns =>
        have hz' : lft (((intsD ds).bind fun ns => if ns.length ≤ 1000 then some (D.int (uniq ns).length) else none).map XV.d) q = some z := hz
        rw [e1] at hz'
        by_cases hb : ns.length ≤ 1000
        · have hz2 : lft ((if ns.length ≤ 1000 then some (D.int (uniq ns).length) else none).map XV.d) q = some z := hz'
          rw [if_pos hb] at hz2
          cases hz2
          have ev := intsD_rep e1 h2
          subst ev
          exact ⟨a, ns, rfl, SqT.of (E.sub _ _ h1), hb, P _ S H r (Ex.refl _) (Rle.refl _) E (show Rep X.K S (.int _) _ from rp_int)⟩
        · have hz2 : lft ((if ns.length ≤ 1000 then some (D.int (uniq ns).length) else none).map XV.d) q = some z := hz'
          rw [if_neg hb] at hz2
          cases hz2
    | _ => cases hz
/-! ### xs + ys, a fresh list -/
theorem runL_at {a u : Type} {rep : RP a u} {te : TX u} {f : ME a} {g : a → ME (List D)} {F S H : Hp} {r : List Addr} {σ : L2.St} {q : Stt} {z : Rs (List D)} {Q : VK} {Q1 : u → Hp → Prop} (h : Tok rep K W te f) (E : Env K F S H r σ q) (hz : bnd f g q = some z) (P : PostL K W F S r σ z Q)
    (k : ∀ x v S1 H1 r1 q1, Ex S S1 → Rle r r1 → Env K F S1 H1 r1 σ q1 → rep S1 r1 x v → g x q1 = some z → PostL K W F S1 r1 σ z Q → Q1 v H1) : te σ H Q1 := by
  rw [bnd_eq] at hz
  cases e : f q with
  | none => rw [e] at hz; cases hz
  | some z1 =>
    obtain ⟨x, q1⟩ := z1
    rw [e] at hz
    cases x with
    | error c =>
      cases hz
      exact h F S H r σ q _ E e _ P
    | ok x =>
      refine h F S H r σ q _ E e _ fun v S1 H1 r1 e1 k1 E1 rp => k x v S1 H1 r1 q1 e1 k1 E1 rp hz ?_
      obtain ⟨x, q⟩ := z
      cases x with
      | error c => exact fun S2 H2 r2 e2 k2 E => P S2 H2 r2 (e1.trans e2) (k1.trans k2) E
      | ok x => exact fun p vs S2 H2 r2 e2 k2 hp E rp => P p vs S2 H2 r2 (e1.trans e2) (k1.trans k2) hp E rp
def catL : XV → XV → Option (List D)
  | .d (.lst xs), .d (.lst ys) => if xs.length + ys.length ≤ big then some (xs ++ ys) else none
  | _, _ => none
def lCat (f1 f2 : ME XV) : ME (List D) := bnd f1 fun x => bnd f2 fun y => lft (catL x y)
theorem is_lcat {e1 e2 : Expr} {t1 t2 : TE} {f1 f2 : ME XV} (h1 : IsE X W e1 t1 f1) (h2 : IsE X W e2 t2 f2) : IsL X W (.BinOp e1 .Add e2 pos) (tOp rCat t1 t2) (lCat f1 f2) := by
  refine ⟨pe_op op_cat h1.pe h2.pe, fun F S H r σ q z E hz Q P => ?_⟩
  show t1 σ H (fun x H1 => t2 σ H1 fun y H2 => rCat x y H2 Q)
  refine runL_at h1.ok E hz P fun x v S1 H1 r1 q1 ex1 k1 E1 rx hz P => ?_
  refine runL_at h2.ok E1 hz P fun y u S2 H2 r2 q2 ex2 k2 E2 ry hz P => ?_
  have rx2 : XRep X.K S2 r2 x v := XRep.mono ex2 k2 rx
  unfold catL at hz
  cases x with
  | h n => cases hz
  | d x =>
    cases y with
    | h n => cases x <;> cases hz
    | d y =>
      cases x with
      | lst xs =>
        cases y with
        | lst ys =>
          have hz' : lft (if xs.length + ys.length ≤ big then some (xs ++ ys) else none) q2 = some z := hz
          by_cases hb : xs.length + ys.length ≤ big
          · rw [if_pos hb] at hz'
            cases hz'
            have a1 : Rep X.K S2 (.lst xs) v := rx2
            have a2 : Rep X.K S2 (.lst ys) u := ry
            rw [Rep] at a1 a2
            obtain ⟨a, vs, rfl, g1, g2⟩ := a1
            obtain ⟨b, us, rfl, g3, g4⟩ := a2
            exact ⟨a, b, vs, us, rfl, rfl, E2.sub _ _ g1, E2.sub _ _ g3, by rw [← g2.length, ← g4.length]; exact big_line hb, fun p hp => P p _ S2 _ r2 (Ex.refl _) (Rle.refl _) (E2.newF hp) (E2.add hp (.lst (vs ++ us))) (g2.append g4)⟩
          · rw [if_neg hb] at hz'
            cases hz'
        | _ => cases hz
      | _ => cases hz
end
end Den

namespace Den
open PySem PySem.Spec PyProof.Rows L2
open Evl (Ex)
/-! ### try: body, several clauses, each with a name or without -/
abbrev Sui := Addr → Value → Option Addr → TS
/-- where a clause's name stands: behind its suite the name is gone -/
def gone (D : Ends) : Option Nat → Ends
  | none => D
  | some i => { nx := fun τ H => D.nx (τ.set i none) H, rt := D.rt, bk := fun τ H => D.bk (τ.set i none) H, ct := fun τ H => D.ct (τ.set i none) H }
def here (σ : L2.St) (a : Addr) : Option Nat → L2.St
  | none => σ
  | some i => σ.set i (some (.ref a))
def wHs (K : PySem.W.Frag) (Wo : WX) (D : Ends) : List (Value × Option Nat × Sui) → WX
  | [] => Wo
  | (c, o, ts) :: r => fun cls d σ H => ∃ m, PySem.W.exmOne K cls c = some m ∧ (m = true → ∀ a, H a = none → ts a cls d (gone D o) (here σ a o) H) ∧ (m = false → wHs K Wo D r cls d σ H)
inductive HOk (X : Cx) : List ExceptHandler → List (Value × Option Nat × Sui) → Prop
  | nil : HOk X [] []
  | cons {x : Str} {c : Value} {ts : Sui} {b : Stmt} {bs : List Stmt} {np hp : Pos} {hs : List ExceptHandler} {l : List (Value × Option Nat × Sui)} {nm : Option Str} {o : Option Nat}
      (hn : (nm = none ∧ o = none) ∨ ∃ n i, nm = some n ∧ o = some i ∧ X.N[i]? = some n ∧ X.env.kindOf n = some .local) (hc : Names X x c)
      (su : ∀ (a : Addr) (oe : Obj) (cls : Value) (d : Option Addr) (pn : List (Addr × Obj)), Zc cls d oe → (∃ vs, oe.data = .fields vs) → PSs (X.suite a ((a, oe) :: pn)) (b :: bs) (ts a cls d)) (r : HOk X hs l) :
      HOk X (.ExceptHandler (some (.Name x np)) nm (b :: bs) hp :: hs) ((c, o, ts) :: l)
section
variable {X : Cx} {body : List Stmt} {h0 : ExceptHandler} {hds : List ExceptHandler} {l : List (Value × Option Nat × Sui)} {pos : Pos} {tb : WX → TS} {Wo : WX}
theorem ps_try_h (hst : X.stack = X.env :: X.outer) (hfr : X.env.frame = some X.env.locals) (hN : X.N.Nodup) (tk : Takes X Wo)
    (hb : ∀ (W : WX) (pn : List (Addr × Obj)) (xe : Value → Shared → Prop), Takes (X.tr pn xe) W → PassesOwn (model X.prog X.w) X.A X.env xe → PSs (X.tr pn xe) body (tb W)) (hh : HOk X (h0 :: hds) l) :
    PS X (.Try body (h0 :: hds) [] [] pos) (fun D σ H => tb (wHs X.K Wo D l) D σ H) := by
  constructor
  intro pins s σ H D I h
  have ok := I.ok
  have fr2 : X.A.frames = some (X.env :: X.outer) := ok.frames.trans (congrArg some hst)
  refine wpAny_Try_except (wpAny_mono ((hb (wHs X.K Wo D l) (X.pn ++ pins) (fun e z => wpAny (model X.prog X.w) X.A (noteFrame e X.env) (fun _ z2 => wpAny (model X.prog X.w) X.A (setFlight e none) (fun _ z3 => wpAny (model X.prog X.w) X.A (handleBy e X.env (h0 :: hds)) (SP X pins D) X.xe z3) X.xe z2) X.xe z) (fun u z g => ?_) PassesOwn.looking).run [] s σ H D (I.toTry _) h) (fun f z g => ?_) (fun _ _ g => g))
  · obtain ⟨a, B, sI, p2, τ, G, cls, d, rfl, J0, nb, up, sky, na, os, ag, w⟩ := g
    have J : Inv X pins τ G sI := J0.ofTry ok
    refine Sky.land Zc.steady fr2 hfr (show Sky B (X.env :: X.outer) a (Zc cls d) X.env.locals z.heap from hst ▸ sky) fun hL fl upL => ?_
    have JL : Inv X pins τ G { z with heap := hL } := J.landed nb fl.1 (up.trans upL) os ag
    obtain ⟨oe, vs, he, hz, hd⟩ := fl.there
    have nfr : a ∉ frs (X.env :: X.outer) := fun hm => by
      obtain ⟨_, o2, e2, no⟩ := fl.2.2.1.mem hm
      rw [he] at e2
      cases e2
      exact no _ hd
    have nL : a ≠ X.env.locals := fun q => nfr (List.mem_filterMap.mpr ⟨X.env, List.mem_cons_self, by rw [hfr, q]⟩)
    have nF : a ∉ X.fs := fun hm => by
      obtain ⟨e, k, q⟩ := List.mem_filterMap.mp hm
      exact nfr (List.mem_filterMap.mpr ⟨e, List.mem_cons_of_mem _ k, q⟩)
    have SL := JL.suite he hd na nL nF
    have go : ∀ {hs : List ExceptHandler} {l : List (Value × Option Nat × Sui)}, HOk X hs l → wHs X.K Wo D l cls d τ G → wpAny (model X.prog X.w) X.A (handleBy (.ref a) X.env hs) (SP X pins D) X.xe { z with heap := hL } := by
      intro hs l k
      induction k with
      | nil =>
        intro w
        obtain ⟨_, _, _, oe1, vs1, T, oT, tt, he1, _, hd1, h1, _⟩ := id fl
        have fin : wpAny (model X.prog X.w) X.A (setFlight (.ref a) X.env.frame) (fun _ z4 => wpAny (model X.prog X.w) X.A (throw (.ref a) : Sem Flow) (SP X pins D) X.xe z4) X.xe { z with heap := hL } := by
          rw [hfr]
          exact HandSPX.setFlight_upZ fl fun h4 k4 up4 => wpAny_throw (tk _ _ ⟨a, B, sI, pins, τ, G, cls, d, rfl, J, nb, (up.trans upL).trans up4, .inr (.inr (by rw [hst]; exact k4)), na, os, ag, w⟩)
        refine wpAny_handleBy_nil ?_
        unfold PySem.passOn
        refine wpAny_bind (wpAny_field he1 hd1 h1 ?_)
        rw [if_neg (show ¬ ((Value.ref T == Value.none) = true) from by simp)]
        first | exact wpAny_bind (wpAny_pure (wpAny_bind fin)) | exact wpAny_bind fin
      | @cons x c ts b bs np hp hs2 l2 nm o hn hc su r ih =>
        intro w
        obtain ⟨m, hm, yes, no⟩ := w
        have LT : PySem.W.Looks (model X.prog X.w) hL (typeOf (.ref a)) cls := fun A Q E s k q => wpAny_typeOf_ref (k _ _ he) (by rw [hz.1]; exact q)
        have LM := PySem.W.exm_one (M := model X.prog X.w) JL.kIn LT hm
        have test : ∀ {Q : Value → Shared → Prop} {E : Value → Shared → Prop}, Q c { z with heap := hL } → wpAny (model X.prog X.w) (X.A.mark (some (.ref a))) (eval (.Name x np) X.env) Q E { z with heap := hL } := fun {Q E} q => by
          obtain ⟨hg, hdb, k1 | ⟨k1, k2, k3⟩⟩ := hc
          · exact ld_glob (X := X.suite a ((a, oe) :: (X.pn ++ pins))) SL hg k1 q hdb
          · exact ld_blt (X := X.suite a ((a, oe) :: (X.pn ++ pins))) SL hg k1 k2 q k3 hdb
        refine wpAny_handleBy_cons (codeAny_handlers_test ?_) (by intro q; cases q)
        refine test (LM.here ?_)
        cases m with
        | false => exact (show wpAny _ X.A (handleBy (.ref a) X.env hs2) _ _ _ from ih (no rfl))
        | true =>
          rcases hn with ⟨rfl, rfl⟩ | ⟨n, i, rfl, rfl, hi, hl⟩
          · refine codeAny_handlers_suite (HandSPX.lands_againZ fl fun h4 fl4 up4 => ?_)
            have J4 : Inv X pins τ G { z with heap := h4 } := J.landed nb fl4.1 ((up.trans upL).trans up4) os ag
            obtain ⟨oe4, vs4, he4, hz4, hd4⟩ := fl4.there
            refine wpAny_mono ((su a oe4 cls d (X.pn ++ pins) hz4 ⟨_, hd4⟩).run [] _ _ G _ (J4.suite he4 hd4 na nL nF) (yes rfl a na)) (fun f z6 g => ?_) (fun _ _ q => False.elim q)
            cases f with
            | next => obtain ⟨τ6, G6, S6, q6⟩ := g; exact ⟨_, _, S6.unsuite ok, q6⟩
            | brk => obtain ⟨τ6, G6, S6, q6⟩ := g; exact ⟨_, _, S6.unsuite ok, q6⟩
            | cont => obtain ⟨τ6, G6, S6, q6⟩ := g; exact ⟨_, _, S6.unsuite ok, q6⟩
            | ret u => obtain ⟨v6, τ6, G6, S6, r6, q6⟩ := g; exact ⟨_, _, _, S6.unsuite ok, r6, q6⟩
          · refine codeAny_handlers_suite_as (HandSPX.lands_againZ fl fun h4 fl4 up4 => ?_)
            have J4 : Inv X pins τ G { z with heap := h4 } := J.landed nb fl4.1 ((up.trans upL).trans up4) os ag
            obtain ⟨oe4, vs4, he4, hz4, hd4⟩ := fl4.there
            refine store_ok (X := X.suite a ((a, oe4) :: (X.pn ++ pins))) (v := .ref a) (J4.suite he4 hd4 na nL nF) hN hi (.inl hl) rfl (fun z5 S5 => ?_) (.inr hl)
            refine wpAny_mono ((su a oe4 cls d (X.pn ++ pins) hz4 ⟨_, hd4⟩).run [] z5 _ G _ S5 (yes rfl a na)) (fun f z6 g => ?_) (fun _ _ q => False.elim q)
            have out : ∀ {τ6 : L2.St} {G6 : Hp} {Q : Shared → Prop}, Inv (X.suite a ((a, oe4) :: (X.pn ++ pins))) [] τ6 G6 z6 → (∀ z7, Inv X pins (τ6.set i none) G6 z7 → Q z7) → wpAny (model X.prog X.w) X.A (do bindName X.env n .none; unbindBehindTheSuite X.env n hp) (fun _ z7 => Q z7) X.xe z6 := fun {τ6 G6 Q} S6 hq => gone_ok (S6.unsuite ok) hN hi hl hq
            cases f with
            | next => obtain ⟨τ6, G6, S6, q6⟩ := g; exact out S6 fun z7 J7 => ⟨_, _, J7, q6⟩
            | brk => obtain ⟨τ6, G6, S6, q6⟩ := g; exact out S6 fun z7 J7 => ⟨_, _, J7, q6⟩
            | cont => obtain ⟨τ6, G6, S6, q6⟩ := g; exact out S6 fun z7 J7 => ⟨_, _, J7, q6⟩
            | ret u => obtain ⟨v6, τ6, G6, S6, r6, q6⟩ := g; exact out S6 fun z7 J7 => ⟨_, _, _, J7, r6, q6⟩
    exact go hh w
  · cases f with
    | next => obtain ⟨τ, G, J, q⟩ := g; exact wpAny_execs_nil ⟨τ, G, J.ofTry ok, q⟩
    | brk => obtain ⟨τ, G, J, q⟩ := g; exact ⟨τ, G, J.ofTry ok, q⟩
    | cont => obtain ⟨τ, G, J, q⟩ := g; exact ⟨τ, G, J.ofTry ok, q⟩
    | ret u => obtain ⟨v, τ, G, J, r, q⟩ := g; exact ⟨v, τ, G, J.ofTry ok, r, q⟩
/-- some wish that takes what W takes -/
theorem takes_all (hst : X.stack = X.env :: X.outer) (hfr : X.env.frame = some X.env.locals) (pn : List (Addr × Obj)) (W : WX) : ∃ xe : Value → Shared → Prop, Takes (X.tr pn xe) W ∧ PassesOwn (model X.prog X.w) X.A X.env xe := by
  refine ⟨fun e z => wpAny (model X.prog X.w) X.A (noteFrame e X.env) (fun _ z2 => wpAny (model X.prog X.w) X.A (setFlight e none) (fun _ _ => True) (fun _ _ => False) z2) (fun _ _ => False) z, fun u z g => ?_, PassesOwn.looking⟩
  obtain ⟨a, B, sI, p2, τ, G, cls, d, rfl, J0, nb, up, sky, na, os, ag, w⟩ := g
  have ok : X.Ok := J0.ok.ofTry
  have fr2 : X.A.frames = some (X.env :: X.outer) := ok.frames.trans (congrArg some hst)
  exact Sky.land Zc.steady fr2 hfr (show Sky B (X.env :: X.outer) a (Zc cls d) X.env.locals z.heap from hst ▸ sky) fun hL fl upL => trivial
end
/-! ### the same, over data -/
def goneQ (q : Stt) : Option Nat → Stt
  | none => q
  | some i => { q with sl := q.sl.set i .un }
def hereQ (q : Stt) (a : Addr) : Option Nat → Stt
  | none => q
  | some i => { q with sl := q.sl.set i (.dat (.ob a)) }
def goneF (o : Option Nat) : Fl → Option Fl
  | .nx q => some (.nx (goneQ q o))
  | .rt x q => some (.rt x (goneQ q o))
  | .bk q => some (.bk (goneQ q o))
  | .ct q => some (.ct (goneQ q o))
  | .ex _ _ => none
abbrev DH := (Value → Option Bool) × Option Nat × (Addr → Value → MS)
def hdl (c : Value) (q : Stt) : List DH → Option Fl
  | [] => some (.ex c q)
  | (m, o, su) :: r => match m c with
    | none => none
    | some true => (su 0 c (hereQ q 0 o)).bind (goneF o)
    | some false => hdl c q r
def sTry (g : MS) (hs : List DH) : MS := fun q => match g q with
  | some (.ex c q1) => hdl c q1 hs
  | z => z
inductive IsHs (X : Cx) : List ExceptHandler → List (Value × Option Nat × Sui) → List DH → Prop
  | nil : IsHs X [] [] []
  | cons {x : Str} {c : Value} {cs : List Addr} {ts : Addr → Addr → TS} {b : Stmt} {bs : List Stmt} {np hp : Pos} {hs : List ExceptHandler} {l : List (Value × Option Nat × Sui)} {dl : List DH} {nm : Option Str} {o : Option Nat} {m : Value → Option Bool} {su : Addr → Value → MS}
      (hn : (nm = none ∧ o = none) ∨ ∃ n i, nm = some n ∧ o = some i ∧ X.N[i]? = some n ∧ X.env.kindOf n = some .local) (hc : Names X x c)
      (hm : ∀ v k, m v = some k → PySem.W.exmOne X.K v c = some k ∧ (k = true → ∃ D ∈ cs, v = .ref D))
      (hsu : ∀ D ∈ cs, ∀ (a : Addr) (oe : Obj) (pn : List (Addr × Obj)), Zc (.ref D) none oe → (∃ vs, oe.data = .fields vs) → IsB (X.suite a ((a, oe) :: pn)) W0 (b :: bs) (ts D a) (su a (.ref D)))
      (ind : ∀ a v q, (su a v (hereQ q a o)).bind (goneF o) = (su 0 v (hereQ q 0 o)).bind (goneF o)) (r : IsHs X hs l dl) :
      IsHs X (.ExceptHandler (some (.Name x np)) nm (b :: bs) hp :: hs) ((c, o, fun a cls d Dn σ H => ∃ D, ∃ _ : D ∈ cs, cls = .ref D ∧ d = none ∧ ts D a Dn σ H) :: l) ((m, o, su) :: dl)
section
variable {X : Cx} {body : List Stmt} {h0 : ExceptHandler} {hds : List ExceptHandler} {l : List (Value × Option Nat × Sui)} {dl : List DH} {pos : Pos} {tb : WX → TS} {W : WX} {g : MS}
theorem IsHs.hok {hs : List ExceptHandler} (h : IsHs X hs l dl) : HOk X hs l := by
  induction h with
  | nil => exact .nil
  | cons hn hc hm hsu ind r ih =>
    refine .cons hn hc (fun a oe cls d pn hz hf => ⟨fun pins s σ H Dn I h => ?_⟩) ih
    obtain ⟨D, hD, rfl, rfl, h⟩ := h
    exact (hsu D hD a oe pn hz hf).ps.run pins s σ H Dn I h
theorem hdl_ok {hs : List ExceptHandler} (h : IsHs X hs l dl) : ∀ {F S H : Hp} {r : List Addr} {σ : L2.St} {q : Stt} {c : Value} {z : Fl} {D : Ends}, Env X.K F S H r σ q → hdl c q dl = some z → PostS X.K W F S r z D → wHs X.K W D l c none σ H := by
  induction h with
  | nil =>
    intro F S H r σ q c z D E hz P
    cases hz
    exact P σ S H r (Ex.refl _) (Rle.refl _) E
  | @cons x c0 cs ts b bs np hp hs l dl nm o m su hn hc hm hsu ind rr ih =>
    intro F S H r σ q c z D E hz P
    unfold hdl at hz
    cases em : m c with
    | none => rw [em] at hz; cases hz
    | some k =>
      rw [em] at hz
      obtain ⟨h1, h2⟩ := hm c k em
      refine ⟨k, h1, fun hk a ha => ?_, fun hk => ?_⟩
      · subst hk
        obtain ⟨C, hC, rfl⟩ := h2 rfl
        refine ⟨C, hC, rfl, rfl, ?_⟩
        have hz' : (su 0 (.ref C) (hereQ q 0 o)).bind (goneF o) = some z := hz
        rw [← ind a] at hz'
        cases es : su a (.ref C) (hereQ q a o) with
        | none => rw [es] at hz'; cases hz'
        | some z1 =>
          rw [es] at hz'
          have hz2 : goneF o z1 = some z := hz'
          have EH : Env X.K F S H r (here σ a o) (hereQ q a o) := by
            rcases hn with ⟨_, rfl⟩ | ⟨n, i, _, rfl, hi, _⟩
            · exact E
            · by_cases hl : i < q.sl.length
              · exact E.putD i (show Rep X.K S (.ob a) (.ref a) from by rw [Rep]) hl
              · obtain ⟨ow, e⟩ := E
                have e1 : (here σ a (some i)) = σ := List.set_eq_of_length_le (by rw [e.len]; omega)
                have e2 : (hereQ q a (some i)) = q := by
                  show Stt.mk (q.sl.set i _) q.w = q
                  rw [List.set_eq_of_length_le (by omega)]
                rw [e1, e2]
                exact ⟨ow, e⟩
          refine (hsu C hC a ⟨.ref C, none, .fields #[], #[]⟩ [] ⟨rfl, rfl⟩ ⟨_, rfl⟩).ok F S H r _ _ z1 EH es _ ?_
          rcases hn with ⟨_, rfl⟩ | ⟨n, i, _, rfl, hi, _⟩
          · cases z1 with
            | ex c q => cases hz2
            | nx q2 => cases hz2; exact P
            | rt x q2 => cases hz2; exact P
            | bk q2 => cases hz2; exact P
            | ct q2 => cases hz2; exact P
          · cases z1 with
            | ex c q => cases hz2
            | nx q2 => cases hz2; exact fun σ2 S2 H2 r2 e2 k2 E2 => P _ S2 H2 r2 e2 k2 (E2.un i none)
            | rt x q2 => cases hz2; exact fun v σ2 S2 H2 r2 e2 k2 E2 rx => P v _ S2 H2 r2 e2 k2 (E2.un i none) rx
            | bk q2 => cases hz2; exact fun σ2 S2 H2 r2 e2 k2 E2 => P _ S2 H2 r2 e2 k2 (E2.un i none)
            | ct q2 => cases hz2; exact fun σ2 S2 H2 r2 e2 k2 E2 => P _ S2 H2 r2 e2 k2 (E2.un i none)
      · subst hk
        exact ih E hz P
theorem is_try (hN : X.N.Nodup) (tk : Takes X W)
    (hb : ∀ (W1 : WX) (pn : List (Addr × Obj)) (xe : Value → Shared → Prop), Takes (X.tr pn xe) W1 → PassesOwn (model X.prog X.w) X.A X.env xe → IsB (X.tr pn xe) W1 body (tb W1) g) (hh : IsHs X (h0 :: hds) l dl)
    (hst : X.stack = X.env :: X.outer := by rfl) (hfr : X.env.frame = some X.env.locals := by rfl) :
    IsS X W (.Try body (h0 :: hds) [] [] pos) (fun D σ H => tb (wHs X.K W D l) D σ H) (sTry g dl) := by
  refine ⟨ps_try_h hst hfr hN tk (fun W1 pn xe t p => (hb W1 pn xe t p).ps) hh.hok, fun F S H r σ q z E hz D P => ?_⟩
  obtain ⟨xe, t1, p1⟩ := takes_all hst hfr [] (wHs X.K W D l)
  have B := (hb (wHs X.K W D l) [] xe t1 p1).ok
  unfold sTry at hz
  cases eg : g q with
  | none => rw [eg] at hz; cases hz
  | some z1 =>
    rw [eg] at hz
    refine B F S H r σ q z1 E eg D ?_
    cases z1 with
    | nx q2 => cases hz; exact P
    | rt x q2 => cases hz; exact P
    | bk q2 => cases hz; exact P
    | ct q2 => cases hz; exact P
    | ex c q2 =>
      have hz' : hdl c q2 dl = some z := hz
      intro σ2 S2 H2 r2 e2 k2 E2
      refine hdl_ok hh E2 hz' ?_
      cases z with
      | nx q3 => exact fun σ3 S3 H3 r3 e3 k3 E3 => P σ3 S3 H3 r3 (e2.trans e3) (k2.trans k3) E3
      | bk q3 => exact fun σ3 S3 H3 r3 e3 k3 E3 => P σ3 S3 H3 r3 (e2.trans e3) (k2.trans k3) E3
      | ct q3 => exact fun σ3 S3 H3 r3 e3 k3 E3 => P σ3 S3 H3 r3 (e2.trans e3) (k2.trans k3) E3
      | rt x q3 => exact fun v σ3 S3 H3 r3 e3 k3 E3 rx => P v σ3 S3 H3 r3 (e2.trans e3) (k2.trans k3) E3 rx
      | ex c q3 => exact fun σ3 S3 H3 r3 e3 k3 E3 => P σ3 S3 H3 r3 (e2.trans e3) (k2.trans k3) E3
end
end Den

namespace Den
open PySem PySem.Spec PyProof.Rows L2
open Evl (Ex)
/-! ### isinstance(e, c), e the error that a clause holds -/
def eIsE (i : Nat) (a : Addr) (b : Bool) : ME XV := fun q => match q.sl[i]? with
  | some (.dat (.ob a2)) => if a2 = a then some (.ok (.d (.bl b)), q) else none
  | _ => none
section
variable {X : Cx} {W : WX}
theorem is_isE (i : Nat) {n cl : Str} {p p1 p2 pos : Pos} {a D : Addr} {oe : Obj} {pn : List (Addr × Obj)} {c : V} {cv : Value} {b : Bool} (C : ExcC X.K D) (hz : Zc (.ref D) none oe) (hf : ∃ vs, oe.data = .fields vs) (hcl : PE (X.suite a ((a, oe) :: pn)) (.Name cl p2) (tC c)) (hrel : ∀ u, RelV c u → u = cv)
    (hk : PySem.W.kitOne X.K (.ref D) cv = some b) (hm : X.mg "isinstance" = none) (hg : Gl (X.suite a ((a, oe) :: pn)) "isinstance" := by rfl) (hN : X.N[i]? = some n := by rfl)
    (hv : PE (X.suite a ((a, oe) :: pn)) (.Name n p1) (tVar i)) (he : starEach [.Name n p1, .Name cl p2] X.env = (false, eval (.Name n p1) X.env) :: starEach [.Name cl p2] X.env := by rfl) (he2 : starEach [.Name cl p2] X.env = (false, eval (.Name cl p2) X.env) :: starEach [] X.env := by rfl)
    (hpl : (backTo pos (starEach [.Name cl p2] X.env)).any (·.1) = false := by rfl) :
    IsE (X.suite a ((a, oe) :: pn)) W (.Call (.Name "isinstance" p) [.Name n p1, .Name cl p2] [] pos) (tCB (rIsE X.K D a) (tCons (tVar i) (tCons (tC c) tNil))) (eIsE i a b) := by
  refine ⟨pe_callB (call_isE C hz hf) hg hm (by decide +kernel) (pa_cons hv (pa_cons hcl pa_nil he2) he) (by decide) (by decide) he hpl, fun F S H r σ q z E hq Q P => ?_⟩
  unfold eIsE at hq
  cases es : q.sl[i]? with
  | none => rw [es] at hq; cases hq
  | some sl =>
    rw [es] at hq
    cases sl with
    | dat d =>
      cases d with
      | ob a2 =>
        by_cases ea : a2 = a
        · subst ea
          have hq' : (if a2 = a2 then some ((Except.ok (XV.d (.bl b)), q) : Rs XV) else none) = some z := hq
          rw [if_pos rfl] at hq'
          cases hq'
          have ev : eVar i q = some (.ok (.d (.ob a2)), q) := by simp only [eVar, es]
          refine tok_var (K := X.K) (W := W) i F S H r σ q _ E ev _ fun v S1 H1 r1 e1 k1 E1 rx => ?_
          have rx' : Rep X.K S1 (.ob a2) v := rx
          rw [Rep] at rx'
          subst rx'
          exact ⟨c, cv, b, rfl, hrel, hk, P _ S1 H1 r1 e1 k1 E1 (show Rep X.K S1 (.bl b) _ from rp_bl)⟩
        · have hq' : (if a2 = a then some ((Except.ok (XV.d (.bl b)), q) : Rs XV) else none) = some z := hq
          rw [if_neg ea] at hq'
          cases hq'
      | _ => cases hq
    | _ => cases hq
theorem isB_t {st : List Stmt} {t t' : TS} {g : MS} (h : IsB X W st t' g) (ht : t' = t) : IsB X W st t g := ht ▸ h
theorem hs_one {x n : Str} {c : Value} {D : Addr} {ts : Addr → TS} {b : Stmt} {bs : List Stmt} {np hp : Pos} {hs : List ExceptHandler} {l : List (Value × Option Nat × Sui)} {dl : List DH} {i : Nat} {m : Value → Option Bool} {su : Addr → MS}
    (hi : X.N[i]? = some n) (hl : X.env.kindOf n = some .local) (hc : Names X x c) (hm : ∀ v k, m v = some k → PySem.W.exmOne X.K v c = some k ∧ (k = true → v = .ref D))
    (hsu : ∀ (a : Addr) (oe : Obj) (pn : List (Addr × Obj)), Zc (.ref D) none oe → (∃ vs, oe.data = .fields vs) → IsB (X.suite a ((a, oe) :: pn)) W0 (b :: bs) (ts a) (su a))
    (ind : ∀ a q, (su a (hereQ q a (some i))).bind (goneF (some i)) = (su 0 (hereQ q 0 (some i))).bind (goneF (some i))) (r : IsHs X hs l dl) :
    ∃ l2, IsHs X (.ExceptHandler (some (.Name x np)) (some n) (b :: bs) hp :: hs) l2 ((m, some i, fun a _ => su a) :: dl) :=
  ⟨_, .cons (cs := [D]) (ts := fun _ a => ts a) (.inr ⟨n, i, rfl, rfl, hi, hl⟩) hc (fun v k h => ⟨(hm v k h).1, fun e => ⟨D, by simp, (hm v k h).2 e⟩⟩)
    (fun D2 hD a oe pn hz hf => by
      have e := List.mem_singleton.mp hD
      subst e
      exact hsu a oe pn hz hf) (fun a v q => ind a q) r⟩
theorem is_tryE {body : List Stmt} {h0 : ExceptHandler} {hds : List ExceptHandler} {dl : List DH} {pos : Pos} {tb : WX → TS} {g : MS} (hN : X.N.Nodup) (tk : Takes X W)
    (hb : ∀ (W1 : WX) (pn : List (Addr × Obj)) (xe : Value → Shared → Prop), Takes (X.tr pn xe) W1 → PassesOwn (model X.prog X.w) X.A X.env xe → IsB (X.tr pn xe) W1 body (tb W1) g) (hh : ∃ l, IsHs X (h0 :: hds) l dl)
    (hst : X.stack = X.env :: X.outer := by rfl) (hfr : X.env.frame = some X.env.locals := by rfl) :
    ∃ t, IsS X W (.Try body (h0 :: hds) [] [] pos) t (sTry g dl) := by
  obtain ⟨l, hh⟩ := hh
  exact ⟨_, is_try hN tk hb hh hst hfr⟩
theorem is_bconsE {st : Stmt} {sts : List Stmt} {t2 : TS} {g1 g2 : MS} (h1 : ∃ t, IsS X W st t g1) (h2 : IsB X W sts t2 g2) : ∃ t, IsB X W (st :: sts) t (sSeq g1 g2) := by
  obtain ⟨t, h1⟩ := h1
  exact ⟨_, is_bcons h1 h2⟩
theorem is_bconsX {st : Stmt} {sts : List Stmt} {t1 : TS} {g1 g2 : MS} (h1 : IsS X W st t1 g1) (h2 : ∃ t, IsB X W sts t g2) : ∃ t, IsB X W (st :: sts) t (sSeq g1 g2) := by
  obtain ⟨t, h2⟩ := h2
  exact ⟨_, is_bcons h1 h2⟩
theorem is_boneE {st : Stmt} {g1 : MS} (h1 : ∃ t, IsS X W st t g1) : ∃ t, IsB X W [st] t g1 := by
  obtain ⟨t, h1⟩ := h1
  exact ⟨_, is_bone h1⟩
theorem hs_add {h : ExceptHandler} {hs : List ExceptHandler} {dl : List DH} {e : DH} (h1 : ∀ l, IsHs X hs l dl → ∃ l2, IsHs X (h :: hs) l2 (e :: dl)) (h2 : ∃ l, IsHs X hs l dl) : ∃ l2, IsHs X (h :: hs) l2 (e :: dl) := by
  obtain ⟨l, h2⟩ := h2
  exact h1 l h2
theorem hs_nil : ∃ l, IsHs X [] l [] := ⟨_, .nil⟩
theorem eIsE_here {q : Stt} {i : Nat} (a : Addr) (b : Bool) (q2 : Stt) (e : q2 = hereQ q a (some i)) : eIsE i a b q2 = if i < q.sl.length then some (.ok (.d (.bl b)), q2) else none := by
  subst e
  by_cases h : i < q.sl.length
  · rw [if_pos h]
    have e1 : (hereQ q a (some i)).sl[i]? = some (.dat (.ob a)) := by
      show (q.sl.set i _)[i]? = _
      rw [List.getElem?_set_self h]
    unfold eIsE
    rw [e1]
    exact if_pos rfl
  · rw [if_neg h]
    have e1 : (hereQ q a (some i)).sl[i]? = none := by
      show (q.sl.set i _)[i]? = _
      rw [List.getElem?_eq_none]
      rw [List.length_set]
      omega
    unfold eIsE
    rw [e1]
theorem goneQ_here {q : Stt} {i : Nat} {a : Addr} : goneQ (hereQ q a (some i)) (some i) = goneQ q (some i) := by
  show Stt.mk ((q.sl.set i _).set i .un) q.w = Stt.mk (q.sl.set i .un) q.w
  rw [List.set_set]
end
/-- what is asked of the law itself -/
def spT (K : PySem.W.Frag) : Sp := fun vs H Q _ => ∃ (a : Addr) (ns : List Int), vs = [.ref a] ∧ SqL K H a (ns.map V.int) ∧ ∀ H', Q (.bl true) H'
theorem spT_of {K : PySem.W.Frag} {G : Fn} (h : ∀ ns : List Int, ∃ w', G [.d (.seq (ns.map .int))] [] = some (.ok (.d (.bl true)), w')) : ∀ vs H Q E, spT K vs H Q E → spF K 1 G vs H Q E := by
  intro vs H Q E k
  obtain ⟨a, ns, rfl, hS, q⟩ := k
  obtain ⟨w', hg⟩ := h ns
  refine ⟨rfl, fun _ => none, H, [], [.d (.seq (ns.map .int))], [], _, ⟨fun _ => none, ⟨Ex.refl _, fun a o h => (nomatch h), fun a x h => (nomatch h), rfl, fun i s h => (by simp at h), rfl, fun n o h => (by simp at h), fun _ _ _ => ⟨rfl, rfl⟩⟩⟩, ⟨.ref a, [], rfl, ?_, rfl⟩, hg, fun v S' H' r' _ _ _ rx => ?_⟩
  · show Rep K H (.seq _) _
    rw [Rep]
    exact ⟨a, _, rfl, hS, repL_ints ns⟩
  · have rx' : Rep K S' (.bl true) v := rx
    rw [Rep] at rx'
    rw [rx']
    exact q H'
theorem exm_mk {K : PySem.W.Frag} {D C : Addr} {r : Bool} (b : PySem.W.subIn K (.ref C) (.type "BaseException") = some true) (i : PySem.W.isClsIn K C = true) (t : PySem.W.typeIn K (.ref C) = some (.type "type")) (s : PySem.W.subIn K (.ref D) (.ref C) = some r) : PySem.W.exmOne K (.ref D) (.ref C) = some r := by
  have i' : (PySem.W.clsIn K C).isSome = true := i
  unfold PySem.W.exmOne PySem.W.kitCls
  simp only [b, t, i', s]
  rfl
theorem kit_mk {K : PySem.W.Frag} {D C : Addr} (i : PySem.W.isClsIn K C = true) (t : PySem.W.typeIn K (.ref C) = some (.type "type")) (s : PySem.W.subIn K (.ref D) (.ref C) = some true) : PySem.W.kitOne K (.ref D) (.ref C) = some true := by
  have i' : (PySem.W.clsIn K C).isSome = true := i
  unfold PySem.W.kitOne
  by_cases e : (Value.ref D == Value.ref C) = true
  · rw [if_pos e]
  · rw [if_neg e]
    unfold PySem.W.kitCls
    simp only [t, i', s]
    rfl
theorem kit_mkT {K : PySem.W.Frag} {D : Addr} {T : String} {r : Bool} (m : PySem.W.kitMeta T = true) (s : PySem.W.subIn K (.ref D) (.type T) = some r) : PySem.W.kitOne K (.ref D) (.type T) = some r := by
  unfold PySem.W.kitOne
  rw [if_neg (show ¬ (Value.ref D == Value.type T) = true from by simp)]
  unfold PySem.W.kitCls
  simp only [m, s, if_true]
end Den

namespace Den
open PySem PySem.Spec PyProof.Rows L2
open Evl (Ex)
/-! ### what a denotation comes to: errors -/
theorem eCall_err {n : Nat} {G : Fn} {fa : ME (List XV)} {q q1 : Stt} {xs : List XV} {c : Value} {w : List WO} (h : fa q = some (.ok xs, q1)) (hn : xs.length = n) (h2 : G xs q1.w = some (.error c, w)) : eCall n G fa q = some (.error c, { q1 with w := w }) := by
  simp only [eCall, bnd, h, if_pos hn, h2]
theorem eCall_any {n : Nat} {G : Fn} {fa : ME (List XV)} {q q1 : Stt} {xs : List XV} {z : Except Value XV} (h : fa q = some (.ok xs, q1)) (hn : xs.length = n) (h2 : G xs q1.w = some (z, q1.w)) : eCall n G fa q = some (z, q1) := by
  simp only [eCall, bnd, h, if_pos hn, h2]
theorem sDrop_err {f : ME XV} {q q1 : Stt} {c : Value} (h : f q = some (.error c, q1)) : sDrop f q = some (.ex c q1) := by
  simp only [sDrop, sOf, h]
theorem sSeq_ex {g1 g2 : MS} {q q1 : Stt} {c : Value} (h : g1 q = some (.ex c q1)) : sSeq g1 g2 q = some (.ex c q1) := by
  simp only [sSeq, h]
theorem sSeq_rt {g1 g2 : MS} {q q1 : Stt} {x : XV} (h : g1 q = some (.rt x q1)) : sSeq g1 g2 q = some (.rt x q1) := by
  simp only [sSeq, h]
theorem fnX_nx {n : Nat} {g : MS} {xs : List XV} {w : List WO} {q : Stt} (h : g (fnQ n xs w) = some (.nx q)) : fnX n g xs w = some (.ok (.d .non), q.w) := by
  simp only [fnX, h]
theorem fnX_rt {n : Nat} {g : MS} {xs : List XV} {w : List WO} {q : Stt} {x : XV} (h : g (fnQ n xs w) = some (.rt x q)) : fnX n g xs w = some (.ok x, q.w) := by
  simp only [fnX, h]
theorem fnX_ex {n : Nat} {g : MS} {xs : List XV} {w : List WO} {q : Stt} {c : Value} (h : g (fnQ n xs w) = some (.ex c q)) : fnX n g xs w = some (.error c, q.w) := by
  simp only [fnX, h]
theorem fnG_nx {n : Nat} {g : MS} {xs : List XV} {w : List WO} {q : Stt} (h : g (fnQ n xs w) = some (.nx q)) : fnG n g xs w = some (.ok (.d .non), q.w) := by
  simp only [fnG, h]
theorem eChain_t {g g' : D → D → Option D} {f1 f2 f3 : ME XV} {q q1 q2 q3 : Stt} {x y z d : D} (h1 : f1 q = some (.ok (.d x), q1)) (h2 : f2 q1 = some (.ok (.d y), q2)) (h : g x y = some (.bl true)) (h3 : f3 q2 = some (.ok (.d z), q3)) (h' : g' y z = some d) : eChain g g' f1 f2 f3 q = some (.ok (.d d), q3) := by
  simp only [eChain, bnd, h1, h2, h, op2, lft, Option.map, Option.bind, toB, if_true, h3, h']
theorem eChain_f {g g' : D → D → Option D} {f1 f2 f3 : ME XV} {q q1 q2 : Stt} {x y : D} (h1 : f1 q = some (.ok (.d x), q1)) (h2 : f2 q1 = some (.ok (.d y), q2)) (h : g x y = some (.bl false)) : eChain g g' f1 f2 f3 q = some (.ok (.d (.bl false)), q2) := by
  simp only [eChain, bnd, h1, h2, h, op2, lft, Option.map, Option.bind, toB, ret]
  rfl
theorem tNot_ok {g : ME Bool} {q q1 : Stt} {b : Bool} (h : g q = some (.ok b, q1)) : tNotB g q = some (.ok (!b), q1) := by
  simp only [tNotB, bnd, h, ret]
theorem tAnd_f {g1 g2 : ME Bool} {q q1 : Stt} (h : g1 q = some (.ok false, q1)) : tAndB g1 g2 q = some (.ok false, q1) := by
  simp only [tAndB, bnd, h, ret]
  rfl
theorem tAnd_t {g1 g2 : ME Bool} {q q1 : Stt} {z : Option (Rs Bool)} (h : g1 q = some (.ok true, q1)) (k : g2 q1 = z) : tAndB g1 g2 q = z := by
  simp only [tAndB, bnd, h, ret]
  exact k
theorem tOr_t {g1 g2 : ME Bool} {q q1 : Stt} (h : g1 q = some (.ok true, q1)) : tOrB g1 g2 q = some (.ok true, q1) := by
  simp only [tOrB, bnd, h, ret]
  rfl
theorem tOr_f {g1 g2 : ME Bool} {q q1 : Stt} {z : Option (Rs Bool)} (h : g1 q = some (.ok false, q1)) (k : g2 q1 = z) : tOrB g1 g2 q = z := by
  simp only [tOrB, bnd, h, ret]
  exact k
theorem ifb_t {g f : ME XV} {q q1 : Stt} {z : Option (Rs XV)} (h : tOf g q = some (.ok true, q1)) (k : f q1 = z) : (bnd (tOf g) fun b => if b then f else ret (.d (.bl false))) q = z := by
  simp only [bnd, h]
  exact k
theorem ifb_f {g f : ME XV} {q q1 : Stt} (h : tOf g q = some (.ok false, q1)) : (bnd (tOf g) fun b => if b then f else ret (.d (.bl false))) q = some (.ok (.d (.bl false)), q1) := by
  simp only [bnd, h]
  rfl
theorem ifx_ok {g : ME Bool} {f1 f2 : ME XV} {q q1 : Stt} {b : Bool} {z : Option (Rs XV)} (h : g q = some (.ok b, q1)) (k : (if b then f1 else f2) q1 = z) : (bnd g fun b => if b then f1 else f2) q = z := by
  simp only [bnd, h]
  exact k
theorem notV_ok {g : ME XV} {q q1 : Stt} {b : Bool} (h : tOf g q = some (.ok b, q1)) : (bnd (tOf g) fun b => ret (XV.d (.bl (!b)))) q = some (.ok (.d (.bl (!b))), q1) := by
  simp only [bnd, h, ret]
/-- it returns True -/
def Rts (z : Option Fl) : Prop := ∃ q, z = some (.rt (.d (.bl true)) q)
theorem toR {g1 g2 : MS} {q q1 : Stt} (h : g1 q = some (.nx q1)) (k : Rts (g2 q1)) : Rts (sSeq g1 g2 q) := by
  obtain ⟨q2, k⟩ := k
  exact ⟨q2, sSeq_to h k⟩
theorem Rts.of {z : Option Fl} {q : Stt} (h : z = some (.rt (.d (.bl true)) q)) : Rts z := ⟨q, h⟩
theorem Rts.fnG {n : Nat} {g : MS} {xs : List XV} {w : List WO} (h : Rts (g (fnQ n xs w))) : ∃ w', fnG n g xs w = some (.ok (.d (.bl true)), w') := by
  obtain ⟨q, h⟩ := h
  exact ⟨q.w, by simp only [Den.fnG, h]⟩
/-- a loop whose turns may raise -/
theorem loopD_all {a : XV → Stt → Option Stt} {g : MS} {c : Value} (p : D → Bool) (I : Stt → Prop) : ∀ (ds : List D) (q : Stt), (∀ d ∈ ds, ∀ q, I q → ∃ q1 q2, a (.d d) q = some q1 ∧ g q1 = some (if p d then .nx q2 else .ex c q2) ∧ I q2) → I q →
    ∃ q', loopD a g ds q = some (if ds.all p then .nx q' else .ex c q') ∧ I q'
  | [], q, _, i => ⟨q, rfl, i⟩
  | d :: ds, q, h, i => by
    obtain ⟨q1, q2, h1, h2, h3⟩ := h d (by simp) q i
    cases e : p d with
    | false =>
      rw [e] at h2
      have h2' : g q1 = some (.ex c q2) := h2
      refine ⟨q2, ?_, h3⟩
      simp only [loopD, h1, h2', List.all_cons, e, Bool.false_and, Bool.false_eq_true, if_false]
    | true =>
      rw [e] at h2
      have h2' : g q1 = some (.nx q2) := h2
      obtain ⟨q', h4, h5⟩ := loopD_all p I ds q2 (fun d m => h d (by simp [m])) h3
      refine ⟨q', ?_, h5⟩
      simp only [loopD, h1, h2', List.all_cons, e, Bool.true_and, h4]
end Den

namespace Den
open PySem PySem.Spec PyProof.Rows L2
open Evl (Ex)
/-! ### x in xs, whole numbers -/
def inB (neg : Bool) (i : Int) (ns : List Int) : Bool := if neg then !decide (i ∈ ns) else decide (i ∈ ns)
def gIn (neg : Bool) : D → D → Option D
  | .int i, .tup ds => (intsD ds).map fun ns => .bl (inB neg i ns)
  | .int i, .lst ds => (intsD ds).map fun ns => .bl (inB neg i ns)
  | .int i, .seq ds => (intsD ds).map fun ns => .bl (inB neg i ns)
  | _, _ => none
theorem inV_ints (i : Int) : ∀ ns : List Int, inV (.int i) (ns.map V.int) = decide (i ∈ ns)
  | [] => rfl
  | n :: ns => by
    have h := inV_ints i ns
    show (eqV (.int n) (.int i) || inV (.int i) (ns.map V.int)) = _
    rw [h]
    show ((n == i) || decide (i ∈ ns)) = decide (i ∈ n :: ns)
    by_cases e : n = i
    · subst e
      simp
    · have e' : ¬ i = n := fun z => e z.symm
      simp [e, e']
theorem flat_ints : ∀ ns : List Int, (ns.map V.int).all flatV = true
  | [] => rfl
  | n :: ns => by
    show (true && (ns.map V.int).all flatV) = true
    rw [flat_ints ns]
    rfl
section
variable {K : PySem.W.Frag}
theorem rin_of {F S H : Hp} {r : List Addr} {σ : L2.St} {q : Stt} {neg : Bool} {i : Int} {ns : List Int} {a : Addr} {Q : VK} (E : Env K F S H r σ q) (hs : SqL K H a (ns.map V.int) ∨ SqT K H a (ns.map V.int))
    (k : ∀ v' S' H', Ex S S' → Env K F S' H' r σ q → Rep K S' (.bl (inB neg i ns)) v' → Q v' H') : rIn K neg (.int i) (.ref a) H Q := by
  refine ⟨a, _, rfl, hs, rfl, flat_ints ns, ?_⟩
  rw [inV_ints]
  exact k _ S H (Ex.refl _) E rp_bl
theorem r2_in (neg : Bool) : R2ok K (rIn K neg) (gIn neg) := by
  intro F S H r σ q x y z vx vy E rx ry hz Q k
  unfold gIn at hz
  split at hz
  · rename_i i ds
    cases e : intsD ds with
    | none => rw [e] at hz; cases hz
    | some ns =>
      rw [e] at hz
      cases hz
      obtain ⟨a, vs, rfl, h1, _, h2⟩ := rh_tup E.sub ry
      rw [rh_int rx]
      have ev := intsD_rep e h2
      subst ev
      exact rin_of E (.inr h1) k
  · rename_i i ds
    cases e : intsD ds with
    | none => rw [e] at hz; cases hz
    | some ns =>
      rw [e] at hz
      cases hz
      obtain ⟨a, vs, rfl, h1, h2⟩ := ry
      rw [rh_int rx]
      have ev := intsD_rep e h2
      subst ev
      exact rin_of E (.inl (SqL.of h1)) k
  · rename_i i ds
    cases e : intsD ds with
    | none => rw [e] at hz; cases hz
    | some ns =>
      rw [e] at hz
      cases hz
      obtain ⟨a, vs, rfl, h1, h2⟩ := rh_seq E.sub ry
      rw [rh_int rx]
      have ev := intsD_rep e h2
      subst ev
      exact rin_of E (.inl h1) k
  · cases hz
/-! ### any(xs) -/
def allBl : List D → Option (List Bool)
  | [] => some []
  | .bl b :: ds => (allBl ds).map (b :: ·)
  | _ => none
theorem allBl_rep {S : Hp} : ∀ {ds : List D} {bs : List Bool} {vs : List V}, allBl ds = some bs → RepL K S ds vs → vs = bs.map V.bl
  | [], bs, vs, h, rp => by
    cases h
    rw [len0 rp]
    rfl
  | d :: ds, bs, vs, h, rp => by
    cases d with
    | bl b =>
      have h' : (allBl ds).map (b :: ·) = some bs := h
      cases e : allBl ds with
      | none => rw [e] at h'; cases h'
      | some cs =>
        rw [e] at h'
        cases h'
        rw [RepL] at rp
        obtain ⟨v, r, rfl, h1, h2⟩ := rp
        rw [Rep] at h1
        rw [h1, allBl_rep e h2]
        rfl
    | _ => cases h
def gAny : List D → Option D
  | [.lst ds] => (allBl ds).map fun bs => .bl (bs.any id)
  | _ => none
theorem rc_any : RCok K (rAny K) gAny := by
  intro F S H r σ q ds z vs E rp hz Q k
  unfold gAny at hz
  split at hz
  · rename_i ds
    cases e : allBl ds with
    | none => rw [e] at hz; cases hz
    | some bs =>
      rw [e] at hz
      cases hz
      obtain ⟨v, rfl, a, us, rfl, h1, h2⟩ := one_rep (F := H) rp
      have ev := allBl_rep e h2
      subst ev
      exact ⟨a, bs, rfl, SqL.of h1, k _ S H (Ex.refl _) E rp_bl⟩
  · cases hz
/-! ### sorted(xs), whole numbers -/
def ins (x : Int) : List Int → List Int
  | [] => [x]
  | y :: l => if x ≤ y then x :: y :: l else y :: ins x l
def srt : List Int → List Int
  | [] => []
  | x :: l => ins x (srt l)
theorem ins_perm (x : Int) : ∀ l : List Int, (ins x l).Perm (x :: l)
  | [] => List.Perm.refl _
  | y :: l => by
    unfold ins
    by_cases h : x ≤ y
    · rw [if_pos h]
    · rw [if_neg h]
      exact ((ins_perm x l).cons y).trans (List.Perm.swap x y l)
theorem srt_perm : ∀ l : List Int, (srt l).Perm l
  | [] => List.Perm.refl _
  | x :: l => (ins_perm x _).trans ((srt_perm l).cons x)
theorem ins_pw {x : Int} : ∀ {l : List Int}, l.Pairwise (· ≤ ·) → (ins x l).Pairwise (· ≤ ·)
  | [], _ => List.pairwise_singleton _ _
  | y :: l, h => by
    obtain ⟨h1, h2⟩ := List.pairwise_cons.mp h
    unfold ins
    by_cases e : x ≤ y
    · rw [if_pos e]
      refine List.pairwise_cons.mpr ⟨fun z hz => ?_, h⟩
      rcases List.mem_cons.mp hz with rfl | hz
      · exact e
      · exact Int.le_trans e (h1 z hz)
    · rw [if_neg e]
      refine List.pairwise_cons.mpr ⟨fun z hz => ?_, ins_pw h2⟩
      rcases List.mem_cons.mp ((ins_perm x l).mem_iff.mp hz) with rfl | hz
      · omega
      · exact h1 z hz
theorem srt_pw : ∀ l : List Int, (srt l).Pairwise (· ≤ ·)
  | [] => List.Pairwise.nil
  | x :: l => ins_pw (srt_pw l)
theorem pw_eq : ∀ {a b : List Int}, a.Perm b → a.Pairwise (· ≤ ·) → b.Pairwise (· ≤ ·) → a = b
  | [], b, p, _, _ => (List.Perm.nil_eq p)
  | x :: a, [], p, _, _ => by cases p.length_eq
  | x :: a, y :: b, p, h1, h2 => by
    obtain ⟨a1, a2⟩ := List.pairwise_cons.mp h1
    obtain ⟨b1, b2⟩ := List.pairwise_cons.mp h2
    have e : x = y := by
      have m1 : x ∈ y :: b := p.mem_iff.mp List.mem_cons_self
      have m2 : y ∈ x :: a := p.mem_iff.mpr List.mem_cons_self
      rcases List.mem_cons.mp m1 with e | m1
      · exact e
      rcases List.mem_cons.mp m2 with e | m2
      · exact e.symm
      have := a1 y m2
      have := b1 x m1
      omega
    subst e
    rw [pw_eq (List.Perm.cons_inv p) a2 b2]
theorem srt_of {a b : List Int} (p : a.Perm b) (h : a.Pairwise (· ≤ ·)) : a = srt b := pw_eq (p.trans (srt_perm b).symm) h (srt_pw b)
theorem rep_il {S : Hp} : ∀ ns : List Int, RepL K S (il ns) (ns.map V.int)
  | [] => RepL.nil
  | n :: ns => RepL.cons rp_int (rep_il ns)
def gSorted : List D → Option (List D)
  | [.lst ds] => (intsD ds).map fun ns => il (srt ns)
  | _ => none
theorem rl_sorted : RLok K (rSortedI K) gSorted := by
  intro F S H r σ q ds z vs E rp hz Q k
  unfold gSorted at hz
  split at hz
  · rename_i ds
    cases e : intsD ds with
    | none => rw [e] at hz; cases hz
    | some ns =>
      rw [e] at hz
      cases hz
      obtain ⟨v, rfl, a, us, rfl, h1, h2⟩ := one_rep (F := H) rp
      have ev := intsD_rep e h2
      subst ev
      refine ⟨a, ns, rfl, SqL.of h1, fun ns' p hp hw hn => ?_⟩
      rw [srt_of hp hw]
      exact k p _ hn (rep_il _)
  · cases hz
end
/-! ### xs.pop(), if xs -/
def gPop0 : List D → Option (D × List D) := fun ds => (ds[ds.length - 1]?).map fun d => (d, ds.dropLast)
def eM0V (g : List D → Option (D × List D)) (i : Nat) : ME XV := fun q => match q.sl[i]? with
  | some (.ol ds) => (g ds).map fun y => (.ok (.d y.1), { q with sl := q.sl.set i (.ol y.2) })
  | _ => none
theorem RepL.dropLast {K : PySem.W.Frag} {S : Hp} : ∀ {ds : List D} {vs : List V}, RepL K S ds vs → RepL K S ds.dropLast vs.dropLast := by
  intro ds vs h
  rw [List.dropLast_eq_take, List.dropLast_eq_take, ← h.length]
  exact h.take _
def tLenB (i : Nat) : ME Bool := fun q => match peek q i with
  | some (.lst ds) => some (.ok (!ds.isEmpty), q)
  | _ => none
section
variable {X : Cx} {W : WX} {e e1 e2 : Expr} {t t1 t2 : TE} {f f1 f2 : ME XV} {pos p p2 apos : Pos} {K : PySem.W.Frag}
theorem tok_pop0 {i : Nat} : Tok (RX K) K W (tBM0 K "list" rPop (tVar i)) (eM0V gPop0 i) := by
  intro F S H r σ q z E hz Q P
  unfold eM0V at hz
  cases es : q.sl[i]? with
  | none => rw [es] at hz; cases hz
  | some s =>
    rw [es] at hz
    cases s with
    | ol ds =>
      have hz' : (gPop0 ds).map (fun y => ((.ok (.d y.1), { q with sl := q.sl.set i (.ol y.2) }) : Rs XV)) = some z := hz
      unfold gPop0 at hz'
      cases e : ds[ds.length - 1]? with
      | none => rw [e] at hz'; cases hz'
      | some d =>
        rw [e] at hz'
        cases hz'
        obtain ⟨a, vs, ha, hH, hF, rp, hi, E2⟩ := E.outL es
        obtain ⟨u, h1, h2⟩ := rp.get e
        refine ⟨.ref a, ha, .inl ⟨rfl, _, SqL.of hH⟩, a, vs, u, rfl, rfl, hH, by rw [← rp.length]; exact h1, ?_⟩
        exact P u S _ r (Ex.refl _) (Rle.refl _) (E2.inL ha hF hi rp.dropLast) h2
    | _ => cases hz
theorem is_pop0V (i : Nat) {x : Str} (hN : X.N[i]? = some x := by rfl) (hvs : Vis X.env.scope x := by first | exact Or.inl rfl | exact Or.inr (Or.inl rfl) | exact Or.inr (Or.inr rfl)) (hd : (x == ("__debug__" : Str)) = false := by decide)
    (hcd : (x == ("__classdict__" : Str)) = false := by decide) (hbase : attributeBase (.Name x p2) "pop" X.env (eval (.Name x p2) X.env) = eval (.Name x p2) X.env := by rfl) (hline : (apos.endLine == pos.line) = true := by rfl) :
    IsE X W (.Call (.Attribute (.Name x p2) "pop" apos) [] [] pos) (tBM0 X.K "list" rPop (tVar i)) (eM0V gPop0 i) :=
  ⟨pe_bm0 PySem.F.plainAttrs_list PySem.F.slot_list_pop PySem.F.type_list_pop mt_pop (pe_var hN hvs hd hcd) hbase hline, tok_pop0⟩
theorem is_truV (i : Nat) {x : Str} (hN : X.N[i]? = some x := by rfl) (hvs : Vis X.env.scope x := by first | exact Or.inl rfl | exact Or.inr (Or.inl rfl) | exact Or.inr (Or.inr rfl)) (hd : (x == ("__debug__" : Str)) = false := by decide)
    (hcd : (x == ("__classdict__" : Str)) = false := by decide) (he : ∀ whole, isTrue (.Name x pos) X.env whole = (do let v ← whole; standAt (Expr.Name x pos).pos; holding [v] (truthy v)) := by intro _; rfl) :
    IsT X W (.Name x pos) (fun σ H Q => tVar i σ H fun x H' => ∃ k, TruV X.K x H' k ∧ Q k H') (tLenB i) := by
  refine ⟨pt_truth (pe_var hN hvs hd hcd) he, ?_⟩
  intro F S H r σ q z E hz Q P
  unfold tLenB at hz
  cases e0 : Den.peek q i with
  | none => rw [e0] at hz; cases hz
  | some d =>
    rw [e0] at hz
    cases d with
    | lst ds =>
      cases hz
      obtain ⟨v0, hv0, a, vs, rfl, h1, h2⟩ := E.peek e0
      refine ⟨_, hv0, !vs.isEmpty, .inl ⟨vs, SqL.of h1, rfl⟩, ?_⟩
      have e : vs.isEmpty = ds.isEmpty := by
        have := h2.length
        cases ds <;> cases vs <;> simp_all
      rw [e]
      exact P _ S H r (Ex.refl _) (Rle.refl _) E rfl
    | _ => cases hz
theorem is_opB {op : CmpOp} {r2 : R2} {g : D → D → Option D} (i : Nat) {x : Str} (ho : OpR X (compareOp op) r2) (hr : R2ok X.K r2 g) (h1 : IsE X W e1 t1 f1) (hm : behindInMarks op (.Name x p2) = false) (hN : X.N[i]? = some x := by rfl) (hvs : Vis X.env.scope x := by first | exact Or.inl rfl | exact Or.inr (Or.inl rfl) | exact Or.inr (Or.inr rfl)) (hd : (x == ("__debug__" : Str)) = false := by decide)
    (hcd : (x == ("__classdict__" : Str)) = false := by decide) : IsE X W (.Compare e1 [op] [.Name x p2] pos) (tOp r2 t1 (tVar i)) (eOpB g f1 i) := ⟨pe_cmpR ho h1.pe (pe_var hN hvs hd hcd) hm, tok_opB hr h1.ok⟩
theorem is_topB {op : CmpOp} {r2 : R2} {g : D → D → Option D} (i : Nat) {x : Str} (ho : OpR X (compareOp op) r2) (hr : R2ok X.K r2 g) (h1 : IsE X W e1 t1 f1) (hm : behindInMarks op (.Name x p2) = false) (hN : X.N[i]? = some x := by rfl) (hvs : Vis X.env.scope x := by first | exact Or.inl rfl | exact Or.inr (Or.inl rfl) | exact Or.inr (Or.inr rfl)) (hd : (x == ("__debug__" : Str)) = false := by decide)
    (hcd : (x == ("__classdict__" : Str)) = false := by decide) : IsT X W (.Compare e1 [op] [.Name x p2] pos) (tTest (tOp r2 t1 (tVar i))) (tOf (eOpB g f1 i)) := ⟨pt_cmpR ho h1.pe (pe_var hN hvs hd hcd) hm, tok_test (tok_opB hr h1.ok)⟩
theorem is_any (hm : X.mg "any" = none) (h : IsE X W e t f) (hc : X.calm = true := by rfl) (hg : Gl X "any" := by rfl) (he : starEach [e] X.env = (false, eval e X.env) :: starEach [] X.env := by rfl) : IsE X W (.Call (.Name "any" p) [e] [] pos) (tCB (rAny X.K) (tCons t tNil)) (eCB gAny (aCons f aNil)) :=
  is_cb (cr_any hc) rc_any hg hm (by decide +kernel) (is_acons h is_anil he) (he := he)
theorem is_sorted (hm : X.mg "sorted" = none) (h : IsE X W e t f) (hg : Gl X "sorted" := by rfl) (he : starEach [e] X.env = (false, eval e X.env) :: starEach [] X.env := by rfl) : IsL X W (.Call (.Name "sorted" p) [e] [] pos) (tCB (rSortedI X.K) (tCons t tNil)) (lCB gSorted (aCons f aNil)) :=
  is_lcb cr_sortedI rl_sorted hg hm (by decide +kernel) (is_acons h is_anil he) (he := he)
end
end Den

namespace Den
open PySem PySem.Spec PyProof.Rows L2
open Evl (Ex)
/-! ### set(xs), xs a list of whole numbers -/
abbrev oS (w : World) : Obj := { cls := .type "set", dict := none, data := .set #[] 0 (.fresh 0 0 (!w.params.followText "set-order")) }
section
variable {P : Program} {w : World} {A : Around} {E : Value → Shared → Prop} {s : Shared}
set_option maxHeartbeats 3200000 in
theorem set_listI {l : Addr} {its : Array Value} (ns : List Int) {Q : Value → Shared → Prop} (hh : A.handled = none) (hl : s.heap.IsList l its) (hit : IntsAre its.toList ns) (hb : ns.length + 1 < scanBound)
    (h : ∀ (h2 : Heap) (tk c : Nat), SetR w h2 s.heap.objs.size (fun j => decide (j ∈ ns)) c → c ≤ ns.length → (∀ b o, s.heap.get? b = some o → h2.get? b = some o) → Q (.ref s.heap.objs.size) { s with heap := h2, toks := tk }) :
    wpAny (model P w) A (call (.type "set") [.ref l]) Q E s := by
  have hn : its.size = ns.length := (Array.length_toList (xs := its)).symm.trans (IntsAre.length hit)
  obtain ⟨c, tl, hmro⟩ := F.called_set.mro
  have f1 := F.called_set.made
  have f2 := F.called_set.sub
  refine wpAny_call (codeAny_of_tree (show wpAny _ _ (callAny (.type "set") _) _ _ _ from wpAny_pure ⟨Code.quiet_builtin _ (by decide +kernel), codeAny_builtin F.entry_type_call ?_⟩))
  rw [Around.under_plain (weight_type_call_type "set" [.ref l] []) rfl]
  have f3 := F.called_set.notType
  have f4 := F.called_set.canCreate
  have f5 := F.typeCall_set_1 (.ref l)
  repeat (any_goals (first | assumption | wp_step))
  refine codeAny_mono (code_set_led1 (.ref l) (E := E) (Q₁ := fun x z => x = .ref s.heap.objs.size ∧ z = { s with heap := s.heap.push (oS w) }) ⟨rfl, rfl⟩) fun r z hr => ?_
  rcases r with e | fl
  · exact hr
  cases fl with
  | ret x =>
    obtain ⟨rfl, rfl⟩ := hr
    have g0 : (s.heap.push (oS w)).get? s.heap.objs.size = some (oS w) := Heap.get?_push_size _ rfl
    have g1 : Shared.TypeIs { s with heap := s.heap.push (oS w) } (.ref s.heap.objs.size) "set" := ⟨_, g0, rfl⟩
    have f6 := F.called_set.init.lookup
    have f7 := F.called_set.init.bind (.ref s.heap.objs.size)
    repeat (any_goals (first | assumption | wp_step))
    refine codeAny_mono (codeAny_call_builtin (R := wants (fun r z => r = .none ∧ ∃ h2 tk c, z = { s with heap := h2, toks := tk } ∧ SetR w h2 s.heap.objs.size (fun j => decide (j ∈ ns)) c ∧ c ≤ ns.length ∧ (∀ b o, s.heap.get? b = some o → h2.get? b = some o)) E) F.called_set.init.plain F.entry_set_init (check_set_init_1 g1 ?_)) fun r2 z2 hr2 => ?_
    · obtain ⟨ol, hol, hcl, nl, hdl⟩ := hl
      obtain ⟨oc, od, oda, osl⟩ := ol
      simp only at hcl hdl
      subst hcl hdl
      have g2 : (s.heap.push (oS w)).get? l = some { cls := .type "list", dict := od, data := .seq its nl, slots := osl } := Heap.get?_push_of_some _ hol
      have f8 := F.sub_list_set
      have f9 := F.sub_list_frozenset
      have f10 : (Value.type "list" == Value.type "dict") = false := by decide
      have g3 : (s.heap.push (oS w)).IsList l its := ⟨_, g2, rfl, nl, rfl⟩
      unfold Builtin.«set.__init__» noKeywords Builtin.Frozenset.updateFrom
      generalize hPI : pyIter = PI
      wp_walk
      subst hPI
      refine wpAny_pyIter_list g3 (wpAny_bind (wpAny_runValue ?_))
      have k1 : l < s.heap.objs.size := Heap.lt_size hol
      have k2 : A.in1.in1.in1.handled = none := by simp [hh]
      have k3 : (s.heap.push (oS w)).objs.size = s.heap.objs.size + 1 := Heap.size_push ..
      have k4 : l ≠ (s.heap.push (oS w)).objs.size := Nat.ne_of_lt (k3 ▸ Nat.lt_succ_of_lt k1)
      have k5 : s.heap.objs.size ∉ [(s.heap.push (oS w)).objs.size, l] := by
        intro m
        rcases List.mem_cons.mp m with m | m
        · exact Nat.ne_of_lt (Nat.lt_succ_self _) (m.trans k3)
        · exact Nat.ne_of_gt k1 (List.mem_singleton.mp m)
      have hval : ∀ (i : Nat) (v : Value), its[i]? = some v → ∃ k t, ns[i]? = some k ∧ v = .int k t := fun i v hv => by
        have hi : i < ns.length := hn ▸ (Array.getElem?_eq_some_iff.mp hv).1
        obtain ⟨t, e⟩ := IntsAre.int_at hit i v (by rw [Array.getElem?_toList]; exact hv)
        exact ⟨ns[i], t, List.getElem?_eq_getElem hi, by rw [e, List.getD_eq_getElem?_getD, List.getElem?_eq_getElem hi] <;> rfl⟩
      refine set_update_ints ((Walks.list k2 _ l k4 its).toS) s.heap.objs.size k5 ns hn hb hval (its.size - 0) 0 _ (by omega) (Nat.zero_le _) ⟨⟨_, Heap.get?_push_size _ rfl, rfl, rfl⟩, g3.push _⟩ ⟨0, Nat.le_refl 0, setR_new_at (Heap.get?_push_of_some _ g0)⟩ fun z c2 hm hc2 hS => ?_
      obtain ⟨h2, gg, dd, tk, oo⟩ := z
      have e1 : gg = s.gens := hm.gens
      have e2 : dd = s.drawn := hm.drawn
      have e3 : oo = s.os := hm.os
      subst e1 e2 e3
      refine wpAny_pure (show wpAny _ _ (PySem.ret Value.none) _ _ _ from wpAny_pure ⟨rfl, h2, tk, c2, rfl, hS, hn ▸ hc2, fun b o e => ?_⟩)
      have b0 : b < s.heap.objs.size := Heap.lt_size e
      refine hm.heap b o (fun m => ?_) (Heap.get?_push_of_some _ (Heap.get?_push_of_some _ e))
      rcases List.mem_cons.mp m with m | m
      · exact Nat.ne_of_lt b0 m
      · exact Nat.ne_of_lt (Nat.lt_succ_of_lt b0) ((List.mem_singleton.mp m).trans k3)
    · rcases r2 with e | fl2
      · exact hr2
      cases fl2 with
      | ret r =>
        obtain ⟨rfl, h2, tk, c2, rfl, hS, hc2, hk⟩ := hr2
        repeat (any_goals (first | assumption | wp_step))
        exact h _ _ _ hS hc2 hk
      | _ => exact hr2.elim
  | _ => exact hr.elim
end
end Den

namespace Den
open PySem PySem.Spec PyProof.Rows L2
open Evl (Ex)
/-! ### sorted(set(xs)), xs a list of whole numbers -/
def rSortSet (K : PySem.W.Frag) : V → Hp → VK → Prop := fun x H Q => ∃ (l : Addr) (ns : List Int), x = V.ref l ∧ SqL K H l (ns.map V.int) ∧ ns.length < 64 ∧ ∀ p, H p = none → Q (.ref p) (upd H p (.lst ((srt (uniq ns)).map V.int)))
def tSortSet (K : PySem.W.Frag) (ta : TE) : TE := fun σ H Q => ta σ H fun x H1 => rSortSet K x H1 Q
theorem lt_le {l : List Int} (h : l.Pairwise (· < ·)) : l.Pairwise (· ≤ ·) := h.imp fun h => by omega
theorem lt_nd {l : List Int} (h : l.Pairwise (· < ·)) : l.Nodup := h.imp fun h => by omega
theorem srt_set {ns out : List Int} (h : out.Pairwise (· < ·)) (m : ∀ k, k ∈ out ↔ k ∈ ns) : out = srt (uniq ns) :=
  srt_of ((List.perm_ext_iff_of_nodup (lt_nd h) (uniq_nd ns)).mpr fun k => (m k).trans (uniq_mem ns k).symm) (lt_le h)
section
variable {X : Cx} {pins : List (Addr × Obj)} {σ : L2.St} {H : Hp} {s : Shared} {Q : VK}
theorem sort_setR {a : Addr} {n : Nat} {ns : List Int} (hc : X.calm = true) (I : L2.Inv X pins σ H s) (R : SetR X.w s.heap a (fun j => decide (j ∈ ns)) n) (h64 : n < 64) (hx : ∀ p, H p = none → Q (.ref p) (upd H p (.lst ((srt (uniq ns)).map V.int)))) :
    wpAny (model X.prog X.w) X.A (call (.builtin "sorted") [.ref a]) (EP X pins σ Q) X.xe s := by
  refine sorted_set R (I.ok.hd hc) h64 fun s' p out c3 ks g0 g o hp hg hi hs hm hl => ?_
  have hlen : (ks.map V.int).length ≤ sizeLine := by rw [List.length_map, hl, sizeLine_eq]; omega
  have hn : H p = none := I.hok.fresh hp
  have J : L2.Inv X pins σ (upd H p (.lst (ks.map V.int))) { s with heap := s'.heap, gens := s'.gens, drawn := s'.drawn, toks := s'.toks } :=
    I.call (ch := []) (Un.laid g0 hp hn) (I.hok.laid g0 hp ⟨hlen, out.toList, c3, vals_of_ints hi, hg⟩) (by rw [g]; exact I.bare) (fun _ z => nomatch z)
  have e : s' = { s with heap := s'.heap, gens := s'.gens, drawn := s'.drawn, toks := s'.toks } := by
    cases s'
    cases s
    cases o
    rfl
  rw [e]
  have hks : ks = srt (uniq ns) := srt_set hs fun k => by rw [hm k, decide_eq_true_eq]
  exact ⟨.ref p, _, J, rfl, by rw [hks]; exact hx p hn⟩
end
section
variable {X : Cx} {W : WX} {e : Expr} {t : TE} {f : ME XV} {K : PySem.W.Frag} {p p2 q pos : Pos}
theorem pe_sortSet (hc : X.calm = true) (hg : Gl X "sorted") (hm : X.mg "sorted" = none) (hg2 : Gl X "set") (hm2 : X.mg "set" = none) (h : PE X e t) (na : starEach [e] X.env = (false, eval e X.env) :: starEach [] X.env := by rfl) :
    PE X (.Call (.Name "sorted" p) [.Call (.Name "set" p2) [e] [] q] [] pos) (tSortSet X.K t) := by
  constructor
  intro pins s σ H Q I hq
  refine Call_ (ld_blt I hg hm (show bootBuiltins "sorted" = some (.builtin "sorted") by decide +kernel) (PyProof.Rows.callWith_builtin1 (PyProof.Rows.args_cons (Call_ (ld_blt I hg2 hm2 PyProof.Rows.boot_set (PyProof.Rows.callWith_type1 (PyProof.Rows.args_cons (thn (h.run pins s σ H _ I hq) fun v z ⟨x, H1, I1, rx, hx⟩ => PyProof.Rows.args_nil ?_) na) na rfl))) rfl) rfl rfl))
  obtain ⟨l, ns, rfl, hT, hb, hx⟩ := hx
  obtain rfl : v = Value.ref l := rx
  obtain ⟨its, rv, pt, _⟩ := I1.list hT
  have hi : IntsAre its.toArray.toList ns := ints_of_vals rv
  have hb' : ns.length + 1 < scanBound := by unfold scanBound; omega
  refine set_listI ns (I1.ok.hd hc) (show z.heap.IsList l its.toArray from pt.isList) hi hb' fun h2 tk c R hc2 k => PyProof.Rows.args_nil ?_
  have I2 : Inv X pins σ H1 { z with heap := h2, toks := tk } := I1.kept k
  exact sort_setR hc I2 R (by omega) hx
def lSortSet (f : ME XV) : ME (List D) := bnd f fun x => lft (match x with | .d (.lst ds) => (intsD ds).bind fun ns => if ns.length < 64 then some (il (srt (uniq ns))) else none | _ => none)
theorem is_sortSet (hm : X.mg "sorted" = none) (hm2 : X.mg "set" = none) (h : IsE X W e t f) (hc : X.calm = true := by rfl) (hg : Gl X "sorted" := by rfl) (hg2 : Gl X "set" := by rfl) (na : starEach [e] X.env = (false, eval e X.env) :: starEach [] X.env := by rfl) :
    IsL X W (.Call (.Name "sorted" p) [.Call (.Name "set" p2) [e] [] q] [] pos) (tSortSet X.K t) (lSortSet f) := by
  refine ⟨pe_sortSet hc hg hm hg2 hm2 h.pe na, ?_⟩
  refine TokL.bind (t2 := fun x σ H Q => rSortSet X.K x H Q) h.ok fun x v F S H r σ q z E rx hz Q P => ?_
  cases x with
  | h n => cases hz
  | d x =>
    cases x with
    | lst ds =>
      have rx' : Rep X.K S (.lst ds) v := rx
      rw [Rep] at rx'
      obtain ⟨a, vs, rfl, h1, h2⟩ := rx'
      cases e1 : intsD ds with
      | none =>
        simp only [e1] at hz
        cases hz
      | some ns =>
        simp only [e1, Option.bind] at hz
        by_cases hb : ns.length < 64
        · rw [if_pos hb] at hz
          cases hz
          have ev := intsD_rep e1 h2
          subst ev
          exact ⟨a, ns, rfl, SqL.of (E.sub _ _ h1), hb, fun p hp => P p _ S _ r (Ex.refl _) (Rle.refl _) (E.newF hp) (E.add hp _) (rep_il _)⟩
        · rw [if_neg hb] at hz
          cases hz
    | _ => cases hz
end
end Den

namespace Den
open PySem PySem.Spec PyProof.Rows L2
open Evl (Ex)
/-! ### comprehensions with a condition, ranges -/
theorem lcLoop_flt {vs : List Nat} {a : XV → Stt → Option Stt} {gt : ME Bool} {fe : ME XV} {P : D → Bool} {F : D → D} {q : Stt} : ∀ (ds acc : List D), (∀ d ∈ ds, ∃ q1, a (.d d) q = some q1 ∧ wipeQ q1 vs = q ∧ gt q1 = some (.ok (P d), q1) ∧ (P d = true → fe q1 = some (.ok (.d (F d)), q1))) →
    acc.length + ds.length ≤ big → lcLoop vs a gt fe ds acc q = some (acc ++ (ds.filter P).map F, q)
  | [], acc, _, _ => by simp [lcLoop]
  | d :: ds, acc, h, hl => by
    obtain ⟨q1, h1, h2, h3, h4⟩ := h d (by simp)
    have hl' : acc.length < big := by simp at hl; omega
    cases e : P d with
    | true =>
      rw [e] at h3
      have ih := lcLoop_flt (vs := vs) (a := a) (gt := gt) (fe := fe) (P := P) (F := F) (q := q) ds (acc ++ [F d]) (fun e m => h e (by simp [m])) (by simp at hl ⊢; omega)
      simp only [lcLoop, h1, h3, h4 e, h2, if_pos hl', ih, List.filter_cons, e, if_true]
      simp
    | false =>
      rw [e] at h3
      have ih := lcLoop_flt (vs := vs) (a := a) (gt := gt) (fe := fe) (P := P) (F := F) (q := q) ds acc (fun e m => h e (by simp [m])) (by simp at hl ⊢; omega)
      simp only [lcLoop, h1, h3, h2, ih, List.filter_cons, e, Bool.false_eq_true, if_false]
theorem lLc_flt {vs : List Nat} {fi : ME (List D)} {a : XV → Stt → Option Stt} {gt : ME Bool} {fe : ME XV} (P : D → Bool) (F : D → D) {q q0 : Stt} {ds : List D} (hf : fi q = some (.ok ds, q0)) (hl : ds.length ≤ big) (hb : backQ q0 (wipeQ q0 vs) vs = q0)
    (h : ∀ d ∈ ds, ∃ q1, a (.d d) (wipeQ q0 vs) = some q1 ∧ wipeQ q1 vs = wipeQ q0 vs ∧ gt q1 = some (.ok (P d), q1) ∧ (P d = true → fe q1 = some (.ok (.d (F d)), q1))) :
    lLc vs fi a gt fe q = some (.ok ((ds.filter P).map F), q0) := by
  have e := lcLoop_flt (vs := vs) (a := a) (gt := gt) (fe := fe) (P := P) (F := F) (q := wipeQ q0 vs) ds [] h (by simpa using hl)
  simp only [lLc, bnd, hf, e, hb, List.nil_append]
def rg (lo : Int) (n : Nat) : List Int := (List.range n).map fun i : Nat => lo + i
theorem iota_rg : ∀ (n : Nat) (lo : Int), iota lo n = il (rg lo n)
  | 0, _ => rfl
  | n + 1, lo => by
    have e : rg lo (n + 1) = lo :: rg (lo + 1) n := by
      unfold rg
      rw [List.range_succ_eq_map, List.map_cons, List.map_map]
      have e1 : lo + ((0 : Nat) : Int) = lo := by omega
      rw [e1]
      congr 1
      refine List.map_congr_left fun i _ => ?_
      show lo + ((i + 1 : Nat) : Int) = lo + 1 + (i : Int)
      omega
    rw [iota, iota_rg n, e]
    rfl
theorem rg_mem {lo : Int} {n : Nat} {x : Int} : x ∈ rg lo n ↔ lo ≤ x ∧ x < lo + n := by
  unfold rg
  constructor
  · intro h
    obtain ⟨i, hi, rfl⟩ := List.mem_map.mp h
    have := List.mem_range.mp hi
    omega
  · intro ⟨h1, h2⟩
    exact List.mem_map.mpr ⟨(x - lo).toNat, List.mem_range.mpr (by omega), by omega⟩
theorem rg_pw : ∀ (n : Nat) (lo : Int), (rg lo n).Pairwise (· < ·) := fun n lo => List.Pairwise.map _ (fun a b h => by show lo + (a : Int) < lo + (b : Int); omega) List.pairwise_lt_range
theorem rg_len {lo : Int} {n : Nat} : (rg lo n).length = n := by simp [rg]
theorem rng2_ok {a b : Nat} (ha : a ≤ 100000) (hb : b ≤ 100000) : rng2 [.d (.int a), .d (.int b)] = some (il (rg a (b - a))) := by
  have e2 : ((b : Int) - (a : Int)).toNat = b - a := by omega
  have e : rng2 [.d (.int a), .d (.int b)] = if -(2 ^ 62) ≤ (a : Int) ∧ (a : Int) < 2 ^ 62 ∧ -(2 ^ 62) ≤ (b : Int) ∧ (b : Int) < 2 ^ 62 then some (iota a ((b : Int) - (a : Int)).toNat) else none := rfl
  rw [e, if_pos ⟨(rng_in ha).1, (rng_in ha).2, rng_in hb⟩, iota_rg, e2]
theorem rng2_len {e1 e2 : ME XV} {q q1 q2 : Stt} {a b : Nat} (h1 : e1 q = some (.ok (.d (.int a)), q1)) (h2 : e2 q1 = some (.ok (.d (.int b)), q2)) (ha : a ≤ 100000) (hb : b ≤ 100000) : (bnd (aCons e1 (aCons e2 aNil)) fun xs => lft (rng2 xs)) q = some (.ok (il (rg a (b - a))), q2) := by
  refine bnd_of (g := fun xs => lft (rng2 xs)) (aCons_ok h1 (aCons_ok h2 rfl)) ?_
  show lft (rng2 [.d (.int a), .d (.int b)]) q2 = _
  rw [rng2_ok ha hb]
  rfl
theorem rng1_len {e : ME XV} {q q1 : Stt} {n : Nat} (h : e q = some (.ok (.d (.int n)), q1)) (hn : n ≤ 100000) : (bnd (aCons e aNil) fun xs => lft (rng1 xs)) q = some (.ok (il (rg 0 n)), q1) := by
  rw [← iota_rg]
  exact rng_len h hn
theorem il_flt {p : Int → Bool} {P : D → Bool} {F : D → D} (hp : ∀ i, P (.int i) = p i) (hf : ∀ i, F (.int i) = .int i) : ∀ l : List Int, ((il l).filter P).map F = il (l.filter p)
  | [] => rfl
  | x :: l => by
    have h := il_flt hp hf l
    show (((D.int x) :: il l).filter P).map F = _
    rw [List.filter_cons, List.filter_cons, hp]
    cases p x with
    | true =>
      simp only [if_true, List.map_cons, hf, h]
      rfl
    | false => simpa using h
theorem atI_map {α : Type} {f : α → D} {xs : List α} {t : Nat} (d : α) (h : t < xs.length) : atI (xs.map f) (t : Int) = some (f (xs.getD t d)) := by
  rw [atI_nat (by omega) (by rw [List.length_map]; omega), Int.toNat_natCast, List.getElem?_map, List.getD_eq_getElem?_getD, List.getElem?_eq_getElem h]
  rfl
theorem atI_last {α : Type} {xs : List α} {x : α} : atI (xs ++ [x]) (-1) = some x := by
  have e : ixN (xs ++ [x]).length (-1) = some xs.length := by
    unfold ixN
    have h1 : ¬ (0 : Int) ≤ -1 := by omega
    have h2 : -(((xs ++ [x]).length : Nat) : Int) ≤ -1 := by
      rw [List.length_append]
      show -((xs.length + 1 : Nat) : Int) ≤ -1
      omega
    rw [if_neg h1, if_pos h2]
    congr 1
    rw [List.length_append]
    show (-1 + ((xs.length + 1 : Nat) : Int)).toNat = xs.length
    omega
  unfold atI
  rw [e]
  show (xs ++ [x])[xs.length]? = some x
  rw [List.getElem?_append_right (Nat.le_refl _), Nat.sub_self]
  rfl
theorem gIn_il {neg : Bool} {i : Int} {l : List Int} : gIn neg (.int i) (.tup (il l)) = some (.bl (inB neg i l)) := by
  show (intsD (il l)).map _ = _
  rw [intsD_il]
  rfl
theorem gIn_ls {neg : Bool} {i : Int} {l : List Int} : gIn neg (.int i) (.lst (il l)) = some (.bl (inB neg i l)) := by
  show (intsD (il l)).map _ = _
  rw [intsD_il]
  rfl
theorem lSortSet_ok {f : ME XV} {q q1 : Stt} {l : List Int} (h : f q = some (.ok (.d (.lst (il l))), q1)) (hl : l.length < 64) : lSortSet f q = some (.ok (il (srt (uniq l))), q1) := by
  simp only [lSortSet, bnd, h, intsD_il, Option.bind, if_pos hl, lft]
theorem gSorted_il {l : List Int} : gSorted [.lst (il l)] = some (il (srt l)) := by
  show (intsD (il l)).map _ = _
  rw [intsD_il]
  rfl
theorem lCB1_ok {g : List D → Option (List D)} {f : ME XV} {q q1 : Stt} {x : D} {ds : List D} (h : f q = some (.ok (.d x), q1)) (h2 : g [x] = some ds) : lCB g (aCons f aNil) q = some (.ok ds, q1) := by
  have e : aCons f aNil q = some (.ok [.d x], q1) := aCons_ok h rfl
  simp only [lCB, bnd, e, allD, Option.map, Option.bind, h2, lft]
theorem eOpB_ok {g : D → D → Option D} {f : ME XV} {i : Nat} {q q1 : Stt} {x y z : D} (h : f q = some (.ok (.d x), q1)) (hp : peek q1 i = some y) (h2 : g x y = some z) : eOpB g f i q = some (.ok (.d z), q1) := by
  simp only [eOpB, bnd, h, hp, h2, Option.map]
theorem eOpV_ok {g : D → D → Option D} {f : ME XV} {i : Nat} {q q1 : Stt} {d0 x y z : D} (h0 : peek q i = some d0) (h : f q = some (.ok (.d y), q1)) (hp : peek q1 i = some x) (h2 : g x y = some z) : eOpV g i f q = some (.ok (.d z), q1) := by
  simp only [eOpV, h0, bnd, h, hp, h2, Option.map]
theorem eM0V_ok {g : List D → Option (D × List D)} {i : Nat} {q : Stt} {ds es : List D} {y : D} (h : q.sl[i]? = some (.ol ds)) (h2 : g ds = some (y, es)) : eM0V g i q = some (.ok (.d y), { q with sl := q.sl.set i (.ol es) }) := by
  simp only [eM0V, h, h2, Option.map]
theorem gPop0_ok {ds : List D} {d : D} : gPop0 (ds ++ [d]) = some (d, ds) := by
  simp [gPop0]
theorem tLenB_ok {i : Nat} {q : Stt} {ds : List D} (h : q.sl[i]? = some (.ol ds)) : tLenB i q = some (.ok (!ds.isEmpty), q) := by
  simp only [tLenB, peek, h]
theorem flt_pw {l : List Int} {p : Int → Bool} (h : l.Pairwise (· < ·)) : (l.filter p).Pairwise (· < ·) := h.filter p
theorem allBl_map {α : Type} {f : α → Bool} : ∀ l : List α, allBl (l.map fun x => .bl (f x)) = some (l.map f)
  | [] => rfl
  | x :: l => by
    show (allBl (l.map fun x => .bl (f x))).map (f x :: ·) = _
    rw [allBl_map l]
    rfl
end Den

namespace Den
open PySem PySem.Spec PyProof.Rows L2
open Evl (Ex)
/-! ### comprehensions with several clauses -/
abbrev TC := L2.St → Hp → (Hp → Prop) → Prop
def loopP (J : It) (g : TG) (tt : TT) (tin : TC) (vs : List Nat) (σ : L2.St) (H0 : Hp) (Nx : Hp → Prop) : Prop := ∃ W : Nat → Nat → Hp → Prop, (∃ m, W 0 m H0) ∧ ∀ i m H, W i m H →
  (J.stop i H ∧ Nx H) ∨ (J.go i H ∧ ∃ Nx1 : Hp → Prop, (∀ H', Nx1 H' → ∃ m', m' < m ∧ W (i + 1) m' H') ∧ ∀ x H', J.yld i H x H' → g x (wipe σ vs) H' fun σ2 H2 => wipe σ2 vs = wipe σ vs ∧ tt σ2 H2 fun b H3 => if b = true then tin σ2 H3 Nx1 else Nx1 H3)
def tCz (wi : TI) (g : TG) (tt : TT) (tin : TC) (vs : List Nat) : TC := fun σ H Nx => wi σ H fun J H1 => loopP J g tt tin vs σ H1 Nx
def lcL {A : Type} (vs : List Nat) (a : XV → Stt → Option Stt) (gt : ME Bool) (body : A → Stt → Option (A × Stt)) : List D → A → Stt → Option (A × Stt)
  | [], acc, q => some (acc, q)
  | d :: ds, acc, q => match a (.d d) q with
    | none => none
    | some q1 => match gt q1 with
      | some (.ok true, q2) => match body acc q2 with
        | some (acc2, q3) => lcL vs a gt body ds acc2 (wipeQ q3 vs)
        | none => none
      | some (.ok false, q2) => lcL vs a gt body ds acc (wipeQ q2 vs)
      | _ => none
def lcC {A : Type} (vs : List Nat) (fi : ME (List D)) (a : XV → Stt → Option Stt) (gt : ME Bool) (body : A → Stt → Option (A × Stt)) : A → Stt → Option (A × Stt) := fun acc q => match fi q with
  | some (.ok ds, q1) => lcL vs a gt body ds acc (wipeQ q1 vs)
  | _ => none
theorem wipe_wipe {σ : L2.St} {ws vs : List Nat} (h : ∀ j ∈ ws, j ∈ vs) : wipe (wipe σ ws) vs = wipe σ vs :=
  agree_wipe (js := ws) ⟨wipe_length σ ws, fun j hj => wipe_get hj⟩ h
section
variable {A : Type} {K : PySem.W.Frag} {RA : Hp → A → HO → Prop} {D0 : Addr} {vs ws : List Nat} {tc tin : TC} {body : A → Stt → Option (A × Stt)} {tg : TG} {js : List Nat} {a : XV → Stt → Option Stt} {tt : TT} {gt : ME Bool}
def TokC (K : PySem.W.Frag) (RA : Hp → A → HO → Prop) (D0 : Addr) (vs : List Nat) (tc : TC) (f : A → Stt → Option (A × Stt)) : Prop :=
  ∀ F S H r σ q acc o accE qE (Nx : Hp → Prop), Env K (upd F D0 o) S H r σ q → RA S acc o → f acc q = some (accE, qE) →
    (∀ S' H' r' o', Ex S S' → Rle r r' → Env K (upd F D0 o') S' H' r' (wipe σ vs) qE → RA S' accE o' → Nx H') → tc σ H Nx
theorem loopP_ok {J : It} {ds : List D} {F S H : Hp} {r : List Addr} {σ : L2.St} {q : Stt} {acc accE : A} {o : HO} {qE : Stt} {Nx : Hp → Prop} (mo : ∀ S S' a o, Ex S S' → RA S a o → RA S' a o) (hg : TokG K tg js a) (ht : Tok RB K W0 tt gt) (hb : TokC K RA D0 ws tin body) (hjs : ∀ j ∈ js, j ∈ vs) (hws : ∀ j ∈ ws, j ∈ vs)
    (w : Wlk K S J ds) (E : Env K (upd F D0 o) S H r σ q) (ra : RA S acc o) (hz : lcL vs a gt body ds acc (wipeQ q vs) = some (accE, qE))
    (P : ∀ S' H' r' o', Ex S S' → Rle r r' → Env K (upd F D0 o') S' H' r' (wipe σ vs) qE → RA S' accE o' → Nx H') : loopP J tg tt tin vs σ H Nx := by
  refine ⟨fun i m H' => m = ds.length - i ∧ i ≤ ds.length ∧ ∃ S' r' q' o' acc', Ex S S' ∧ Rle r r' ∧ Env K (upd F D0 o') S' H' r' (wipe σ vs) q' ∧ RA S' acc' o' ∧ lcL vs a gt body (ds.drop i) acc' q' = some (accE, qE),
    ⟨_, rfl, Nat.zero_le _, S, r, wipeQ q vs, o, acc, Ex.refl _, Rle.refl _, E.wiped vs, ra, hz⟩, ?_⟩
  rintro i m H1 ⟨rfl, hi', S1, r1, q1, o1, acc1, e1, k1, E1, ra1, hl⟩
  by_cases hlt : i < ds.length
  · have hd : ds[i]? = some ds[i] := List.getElem?_eq_getElem hlt
    have hdrop : ds.drop i = ds[i] :: ds.drop (i + 1) := List.drop_eq_getElem_cons hlt
    rw [hdrop] at hl
    obtain ⟨go, yl⟩ := w.go _ S1 H1 r1 _ q1 i _ e1 E1 hd
    refine .inr ⟨go, fun H' => i + 1 ≤ ds.length ∧ ∃ S' r' q' o' acc', Ex S S' ∧ Rle r r' ∧ Env K (upd F D0 o') S' H' r' (wipe σ vs) q' ∧ RA S' acc' o' ∧ lcL vs a gt body (ds.drop (i + 1)) acc' q' = some (accE, qE), fun H' ⟨h1, h2⟩ => ⟨_, by omega, rfl, h1, h2⟩, fun x H' y => ?_⟩
    obtain ⟨S2, e2, E2, rx⟩ := yl x H' y
    unfold lcL at hl
    cases ea : a (.d ds[i]) q1 with
    | none => rw [ea] at hl; cases hl
    | some q2 =>
      rw [ea] at hl
      refine hg (.d ds[i]) x _ S2 H' r1 _ q1 q2 E2 rx ea _ fun σ2 E3 ag => ?_
      have hw : wipe σ2 vs = wipe σ vs := (agree_wipe ag hjs).trans (wipe_wipe fun j h => h)
      refine ⟨hw, ?_⟩
      have hi1 : i + 1 ≤ ds.length := hlt
      cases eg : gt q2 with
      | none => simp only [eg] at hl; cases hl
      | some y2 =>
        obtain ⟨b, q3⟩ := y2
        simp only [eg] at hl
        cases b with
        | error c => cases hl
        | ok b =>
          refine ht _ S2 H' r1 σ2 q2 _ E3 eg _ fun b' S3 H3 r3 e3 k3 E4 hb' => ?_
          have hb2 : b = b' := hb'
          subst hb2
          cases b with
          | false =>
            refine iteF ⟨hi1, S3, r3, wipeQ q3 vs, o1, acc1, (e1.trans e2).trans e3, k1.trans k3, ?_, mo _ _ _ _ (e2.trans e3) ra1, hl⟩
            rw [← hw]
            exact E4.wiped vs
          | true =>
            refine iteT ?_
            cases eb : body acc1 q3 with
            | none => simp only [eb] at hl; cases hl
            | some y3 =>
              obtain ⟨acc2, q4⟩ := y3
              simp only [eb] at hl
              refine hb F S3 H3 r3 σ2 q3 acc1 o1 acc2 q4 _ E4 (mo _ _ _ _ (e2.trans e3) ra1) eb fun S4 H4 r4 o4 e4 k4 E5 ra4 => ?_
              refine ⟨hi1, S4, r4, wipeQ q4 vs, o4, acc2, ((e1.trans e2).trans e3).trans e4, (k1.trans k3).trans k4, ?_, ra4, hl⟩
              rw [← hw, ← wipe_wipe hws]
              exact E5.wiped vs
  · have ei : i = ds.length := by omega
    subst ei
    rw [List.drop_length] at hl
    have ez : some (acc1, q1) = some (accE, qE) := hl
    cases ez
    exact .inl ⟨w.stop _ S1 H1 r1 _ _ _ e1 E1 (Nat.le_refl _), P S1 H1 r1 o1 e1 k1 E1 ra1⟩
theorem tokC_loop {wi : TI} {fi : ME (List D)} (mo : ∀ S S' a o, Ex S S' → RA S a o → RA S' a o) (hi : Tok (RI K) K W0 wi fi) (hg : TokG K tg js a) (ht : Tok RB K W0 tt gt) (hb : TokC K RA D0 ws tin body) (hjs : ∀ j ∈ js, j ∈ vs) (hws : ∀ j ∈ ws, j ∈ vs) :
    TokC K RA D0 vs (tCz wi tg tt tin vs) (lcC vs fi a gt body) := by
  intro F S H r σ q acc o accE qE Nx E ra hz P
  unfold lcC at hz
  cases e : fi q with
  | none => rw [e] at hz; cases hz
  | some y =>
    obtain ⟨x, q1⟩ := y
    rw [e] at hz
    cases x with
    | error c => cases hz
    | ok ds =>
      refine hi _ S H r σ q _ E e _ fun J S1 H1 r1 e1 k1 E1 w => ?_
      exact loopP_ok mo hg ht hb hjs hws w E1 (mo _ _ _ _ e1 ra) hz fun S2 H2 r2 o2 e2 k2 E2 ra2 => P S2 H2 r2 o2 (e1.trans e2) (k1.trans k2) E2 ra2
end
/-! ### their element, a list's -/
def RAl (K : PySem.W.Frag) : Hp → List D → HO → Prop := fun S acc o => ∃ us, o = .lst us ∧ RepL K S acc us
theorem moL {K : PySem.W.Frag} : ∀ S S' a o, Ex S S' → RAl K S a o → RAl K S' a o := fun S S' a o e ⟨us, h1, h2⟩ => ⟨us, h1, RepL.mono e _ _ h2⟩
def tElL (te : TE) (D0 : Addr) : TC := fun σ H Nx => te σ H fun y H7 => ∃ acc, H7 D0 = some (.lst acc) ∧ acc.length < sizeLine ∧ Nx (upd H7 D0 (.lst (acc ++ [y])))
def elL (fe : ME XV) : List D → Stt → Option (List D × Stt) := fun acc q => match fe q with
  | some (.ok (.d x), q2) => if acc.length < big then some (acc ++ [x], q2) else none
  | _ => none
theorem tokC_elL {K : PySem.W.Frag} {D0 : Addr} {te : TE} {fe : ME XV} (he : Tok (RX K) K W0 te fe) : TokC K (RAl K) D0 [] (tElL te D0) (elL fe) := by
  intro F S H r σ q acc o accE qE Nx E ra hz P
  obtain ⟨us, rfl, ra⟩ := ra
  unfold elL at hz
  cases e : fe q with
  | none => rw [e] at hz; cases hz
  | some y =>
    obtain ⟨x, q1⟩ := y
    rw [e] at hz
    cases x with
    | error c => cases hz
    | ok x =>
      cases x with
      | h n => cases hz
      | d x =>
        have hz' : (if acc.length < big then some (acc ++ [x], q1) else none) = some (accE, qE) := hz
        obtain ⟨hl, ez⟩ := ifs hz'
        cases ez
        refine he _ S H r σ q _ E e _ fun v S1 H1 r1 e1 k1 E1 rv => ?_
        have ra1 := RepL.mono e1 _ _ ra
        refine ⟨us, E1.fr upd_same, by rw [← ra1.length]; exact Nat.lt_of_lt_of_le hl (by decide), ?_⟩
        exact P S1 _ r1 _ e1 k1 (E1.write (.lst (us ++ [v]))) ⟨_, rfl, ra1.append (RepL.one rv)⟩
/-! ### two clauses -/
def lLc2 (vs : List Nat) (fi : ME (List D)) (a : XV → Stt → Option Stt) (gt : ME Bool) (vs1 : List Nat) (fi1 : ME (List D)) (a1 : XV → Stt → Option Stt) (gt1 : ME Bool) (fe : ME XV) : ME (List D) := bnd fi fun ds q => match lcL vs a gt (lcC vs1 fi1 a1 gt1 (elL fe)) ds [] (wipeQ q vs) with
  | none => none
  | some (acc, q2) => some (.ok acc, backQ q q2 vs)
section
variable {K : PySem.W.Frag}
theorem tokL_lc2 {W : WX} {wi wi1 : TI} {tg tg1 : TG} {js js1 : List Nat} {a a1 : XV → Stt → Option Stt} {fi fi1 : ME (List D)} {vs vs1 : List Nat} {tt tt1 : TT} {gt gt1 : ME Bool} {te : TE} {fe : ME XV} (hi : Tok (RI K) K W wi fi) (hg : TokG K tg js a) (ht : Tok RB K W0 tt gt) (hi1 : Tok (RI K) K W0 wi1 fi1) (hg1 : TokG K tg1 js1 a1) (ht1 : Tok RB K W0 tt1 gt1) (he : Tok (RX K) K W0 te fe) (hjs : ∀ j ∈ js, j ∈ vs) (hjs1 : ∀ j ∈ js1, j ∈ vs1) (hws : ∀ j ∈ vs1, j ∈ vs) :
    TokL K W (tLc2 wi tg tt wi1 tg1 tt1 te vs vs1) (lLc2 vs fi a gt vs1 fi1 a1 gt1 fe) := by
  refine TokL.bind (t2 := fun (J : It) (σ : L2.St) (H1 : Hp) (Q : VK) => ∀ D, H1 D = none → loopP J tg tt (tCz wi1 tg1 tt1 (tElL te D) vs1) vs σ (upd H1 D (.lst [])) fun H => Q (.ref D) H) hi fun ds J F S H r σ q z E w hz Q P => ?_
  have hz0 : (match lcL vs a gt (lcC vs1 fi1 a1 gt1 (elL fe)) ds [] (wipeQ q vs) with
    | none => none
    | some (acc, q2) => some ((Except.ok acc : Except Value (List D)), backQ q q2 vs)) = some z := hz
  cases el : lcL vs a gt (lcC vs1 fi1 a1 gt1 (elL fe)) ds [] (wipeQ q vs) with
  | none => rw [el] at hz0; cases hz0
  | some zz =>
    obtain ⟨accE, qE⟩ := zz
    rw [el] at hz0
    cases hz0
    intro p hp
    have hF := E.newF hp
    exact loopP_ok (RA := RAl K) (F := F) moL hg ht (tokC_loop moL hi1 hg1 ht1 (tokC_elL he) hjs1 (fun j h => by cases h)) hjs hws w (E.add hp (.lst [])) ⟨[], rfl, RepL.nil⟩ el fun S1 H1 r1 o1 e1 k1 E1 ra => by
      obtain ⟨us, rfl, ra⟩ := ra
      exact P p us S1 H1 r1 e1 k1 hF (Env.back e1 k1 E E1) ra
end
section
variable {X : Cx} {W : WX} {elt tgt iter tgt1 iter1 : Expr} {ifs ifs1 : List Expr} {scope : Scope} {own : List (Str × Nat)} {wi wi1 : TI} {tg tg1 : TG} {js js1 vs1 : List Nat} {a a1 : XV → Stt → Option Stt} {fi fi1 : ME (List D)} {te : TE} {fe : ME XV} {tt tt1 : TT} {gt gt1 : ME Bool} {pos : Pos}
abbrev dS : Shared := ⟨⟨#[], {}⟩, #[], {}, 0, default⟩
theorem isI_t {X : Cx} {W : WX} {tg e : Expr} {t t' : TI} {f : ME (List D)} (h : IsI X W tg e t' f) (ht : t' = t) : IsI X W tg e t f := ht ▸ h
theorem is_lc2 (hN : X.N.Nodup) (hi : IsI X W tgt iter wi fi) (ok : BlkOk X.N X.env.scope scope own)
    (hg : ∀ (s : Shared) (H : Hp) (C : Addr) (cl : List (Str × Addr)) (fp : List Addr), IsG (X.blk s H scope (compEnvC scope cl C X.env) fp) tgt tg js a) (ht : ∀ (s : Shared) (H : Hp) (C : Addr) (cl : List (Str × Addr)) (fp : List Addr), IsTs (X.blk s H scope (compEnvC scope cl C X.env) fp) W0 ifs tt gt)
    (hi1 : ∀ (s : Shared) (H : Hp) (C : Addr) (cl : List (Str × Addr)) (fp : List Addr), IsI (X.blk s H scope (compEnvC scope cl C X.env) fp) W0 tgt1 iter1 wi1 fi1)
    (hg1 : ∀ (s : Shared) (H : Hp) (C : Addr) (cl : List (Str × Addr)) (fp : List Addr), IsG (X.blk s H scope (compEnvC scope cl C X.env) fp) tgt1 tg1 js1 a1) (ht1 : ∀ (s : Shared) (H : Hp) (C : Addr) (cl : List (Str × Addr)) (fp : List Addr), IsTs (X.blk s H scope (compEnvC scope cl C X.env) fp) W0 ifs1 tt1 gt1)
    (he : ∀ (s : Shared) (H : Hp) (C : Addr) (cl : List (Str × Addr)) (fp : List Addr), IsE (X.blk s H scope (compEnvC scope cl C X.env) fp) W0 elt te fe)
    (hjs : ∀ j ∈ js, j ∈ own.map (·.2) := by decide) (hjs1 : ∀ j ∈ js1, j ∈ vs1 := by decide) (hv : ∀ i ∈ vs1, i ∈ own.map (·.2) := by decide) (hc : X.calm = true := by rfl) (hs : ∀ x, foldedSetIterable iter X.env x = pure x := by intro _; rfl) (hs1 : ∀ env x, foldedSetIterable iter1 env x = pure x := by intro _ _; rfl) :
    IsL X W (.ListComp elt [⟨tgt, iter, ifs, 0⟩, ⟨tgt1, iter1, ifs1, 0⟩] scope pos) (tLc2 wi tg tt wi1 tg1 tt1 te (own.map (·.2)) vs1) (lLc2 (own.map (·.2)) fi a gt vs1 fi1 a1 gt1 fe) := 
  ⟨pe_lc2 hc hN hi.pi ok hv (fun s H C cl fp => (hg s H C cl fp).pg) (fun s H C cl fp => (ht s H C cl fp).pts) (fun s H C cl fp => (hi1 s H C cl fp).pi) (fun s H C cl fp => (hg1 s H C cl fp).pg) (fun s H C cl fp => (ht1 s H C cl fp).pts) (fun s H C cl fp => (he s H C cl fp).pe) hs hs1,
    tokL_lc2 hi.ok (hg dS (fun _ => none) 0 [] []).ok (ht dS (fun _ => none) 0 [] []).ok (hi1 dS (fun _ => none) 0 [] []).ok (hg1 dS (fun _ => none) 0 [] []).ok (ht1 dS (fun _ => none) 0 [] []).ok (he dS (fun _ => none) 0 [] []).ok hjs hjs1 hv⟩
end
end Den

namespace Den
open PySem PySem.Spec PyProof.Rows L2
open Evl (Ex)
/-! ### max(xs, default=d), xs a list of whole numbers -/
def mx (d : Int) : List Int → Int
  | [] => d
  | n :: ns => ns.foldl max n
theorem reads_ints {h : Heap} : ∀ {vs : List Value} {ns : List Int}, IntsAre vs ns → PySem.ReadsAll h vs (ns.map PyData.int) []
  | _, _, .nil => .nil
  | _, _, .cons k tk r => .cons (as := []) (bs := []) (.int k tk) (reads_ints r)
theorem depth_ints : ∀ ns : List Int, PyData.depthAll (ns.map PyData.int) = 0
  | [] => rfl
  | n :: ns => by
    show max (PyData.depth (.int n)) (PyData.depthAll (ns.map PyData.int)) = 0
    rw [depth_ints ns]
    rfl
theorem alike_ints (ns : List Int) : PySem.W.AlikeAll (ns.map PyData.int) := by
  refine ⟨fun x hx y hy => ?_, fun x hx => ?_⟩
  · obtain ⟨i, _, rfl⟩ := List.mem_map.mp hx
    obtain ⟨j, _, rfl⟩ := List.mem_map.mp hy
    rfl
  · obtain ⟨i, _, rfl⟩ := List.mem_map.mp hx
    intro z
    cases z
def rMaxD (K : PySem.W.Frag) : List V → List V → Hp → VK → Prop := fun vs zs H Q => ∃ (a : Addr) (ns : List Int) (d : Int), vs = [V.ref a] ∧ zs = [V.int d] ∧ SqL K H a (ns.map V.int) ∧ Q (.int (mx d ns)) H
section
variable {X : Cx} {W : WX} {e : Expr} {t : TE} {f : ME XV} {K : PySem.W.Frag} {p p2 pos kpos : Pos}
theorem cr_maxD (hc : X.calm = true) (hu : X.A.units + 1 < cLine) : CallRK X (.builtin "max") [Str.ofString "default"] (rMaxD X.K) := by
  intro pins s σ H vs zs us ws Q I r rz h
  obtain ⟨a, ns, d, rfl, rfl, hs, q⟩ := h
  obtain rfl := Vals.ref1 r
  obtain ⟨w1, rfl, e1⟩ := vals1 rz
  obtain ⟨tk0, rfl⟩ := e1
  obtain ⟨its, rv, hl, hz⟩ := I.list hs
  have hi : IntsAre its.toArray.toList ns := ints_of_vals rv
  refine PySem.W.max_list_default (I.ok.hd hc) hl.isList (reads_ints hi) (alike_ints ns) (by rw [depth_ints]; exact hu) (fun e h2 tk k => ?_) fun y ys i v h2 tk bs e hv rd k => ?_
  · cases ns with
    | nil => exact ⟨.int d, H, I.kept k, ⟨tk0, rfl⟩, q⟩
    | cons n ns => cases e
  · cases ns with
    | nil => cases e
    | cons n ns =>
      obtain ⟨rfl, rfl⟩ := List.cons.inj e
      rw [PySem.W.maxD_ints] at rd
      cases rd
      exact ⟨.int (ns.foldl max n), H, I.kept k, ⟨_, rfl⟩, q⟩
def eMaxD (d : Int) (f : ME XV) : ME XV := bnd f fun x => lft (match x with | .d (.lst ds) => (intsD ds).map fun ns => .d (.int (mx d ns)) | _ => none)
theorem is_maxD {d : Int} {j : Nat} (hu : X.A.units + 1 < cLine) (hm : X.mg "max" = none) (h : IsE X W e t f) (hc : X.calm = true := by rfl) (hg : Gl X "max" := by rfl)
    (hs : starEach (e :: []) X.env = (false, eval e X.env) :: starEach [] X.env := by rfl)
    (he : backTo pos (starEach [e] X.env) = (false, eval e X.env) :: backTo pos (starEach [] X.env) := by rfl) (hpl : (backTo pos (starEach [e] X.env)).any (·.1) = false := by rfl)
    (hall : (backToKw pos (keywordEach [⟨some "default", .Constant (.int d) j p2, kpos⟩] X.env)).all (·.1.isSome) = true := by rfl) (hnone : (backToKw pos (keywordEach [⟨some "default", .Constant (.int d) j p2, kpos⟩] X.env)).any (·.1.isNone) = false := by rfl) (hks : (backToKw pos (keywordEach [⟨some "default", .Constant (.int d) j p2, kpos⟩] X.env)).filterMap (·.1) = [Str.ofString "default"] := by rfl) :
    IsE X W (.Call (.Name "max" p) [e] [⟨some "default", .Constant (.int d) j p2, kpos⟩] pos) (tCKw (rMaxD X.K) (tCons t tNil) (tCons (tC (.int d)) tNil)) (eMaxD d f) := by
  refine ⟨pe_callBK (cr_maxD hc hu) hg hm (by decide +kernel) (pa_cons h.pe pa_nil hs) (pk_cons pe_int pk_nil) (he := he) (hpl := hpl) (hall := hall) (hnone := hnone) (hks := hks), ?_⟩
  refine Tok.bind (t2 := fun x σ H Q => rMaxD X.K [x] [V.int d] H Q) h.ok fun x v F S H r σ q z E rx hz Q P => ?_
  cases x with
  | h n => cases hz
  | d x =>
    cases x with
    | lst ds =>
      have rx' : Rep X.K S (.lst ds) v := rx
      rw [Rep] at rx'
      obtain ⟨a, vs, rfl, h1, h2⟩ := rx'
      cases e1 : intsD ds with
      | none =>
        simp only [e1] at hz
        cases hz
      | some ns =>
        simp only [e1, Option.map] at hz
        cases hz
        have ev := intsD_rep e1 h2
        subst ev
        exact ⟨a, ns, d, rfl, rfl, SqL.of (E.sub _ _ h1), P _ S H r (Ex.refl _) (Rle.refl _) E (show Rep X.K S (.int _) _ from rp_int)⟩
    | _ => cases hz
end
end Den

namespace Den
open PySem PySem.Spec PyProof.Rows L2
open Evl (Ex)
/-! ### {e for .. in .. for .. in .. for .. in ..}: the loops -/
abbrev no3 : Value → Shared → Prop := fun _ _ => False
abbrev testsS (ifs : List Expr) (ce : PySem.Env) : Sem Bool := forIn ifs true fun c r => if r = true then do let ok ← isTrue c ce (eval c ce); pure (ForInStep.yield ok) else pure (ForInStep.yield r)
section
variable {P : Program} {w : World} {A : Around} {R : Result → Shared → Prop} {s : Shared} {ce : PySem.Env} {Ex0 el tgt ip ib : Expr} {k : Nat} {ifs : List Expr} {it acc : Value}
def TurnB (P : Program) (w : World) (A : Around) (it : Value) (tgt : Expr) (ifs : List Expr) (ce : PySem.Env) (B : (Shared → Prop) → Shared → Prop) (R : Result → Shared → Prop) (I : Nat → Shared → Prop) (n : Nat) (s : Shared) : Prop :=
  wpAny (model P w) A (pyNext it) (fun r z1 => match r with
    | none => R (.ok .next) z1
    | some v => wpAny (model P w) A (letOwnedTupleGo tgt it v) (fun _ z2 => wpAny (model P w) A (assign tgt ce v) (fun _ z3 => wpAny (model P w) A (testsS ifs ce) (fun ok z4 =>
        if ok = true then B (fun z5 => ∃ m, m < n ∧ I m z5) z4 else ∃ m, m < n ∧ I m z4) no3 z3) no3 z2) no3 z1) no3 s
def LoopB (P : Program) (w : World) (A : Around) (Ex0 : Expr) (k : Nat) (acc : Value) (ce : PySem.Env) (tgt : Expr) (ifs : List Expr) (B : (Shared → Prop) → Shared → Prop) : Prop :=
  ∀ (R : Result → Shared → Prop) (it : Value) (I : Nat → Shared → Prop), (∀ n s, I n s → TurnB P w A it tgt ifs ce B R I n s) → ∀ n s, I n s → codeAny (model P w) A (.compLoop Ex0 k it acc ce) R s
def StartB (P : Program) (w : World) (A : Around) (Ex0 : Expr) (k : Nat) (acc : Value) (ce : PySem.Env) : Prop :=
  ∀ (R : Result → Shared → Prop) (it : Value) (s : Shared), codeAny (model P w) A (.compLoop Ex0 k it acc ce) R s → wpAny (model P w) A (pyIter it) (fun i2 z => codeAny (model P w) A (.compLoop Ex0 k i2 acc ce) R z) (notedBy (model P w) A ce fun x z => R (.error x) z) s →
    codeAny (model P w) A (.compStart Ex0 k it acc ce) R s
/-- the next clause -/
def outB (P : Program) (w : World) (A : Around) (Ex0 : Expr) (k : Nat) (ib : Expr) (acc : Value) (ce : PySem.Env) : (Shared → Prop) → Shared → Prop := fun R s =>
  wpAny (model P w) A (eval ib ce) (fun x z1 => wpAny (model P w) A (pyIter x) (fun i2 z2 => codeAny (model P w) A (.compStart Ex0 k i2 acc ce) (fun r z3 => match r with | .ok _ => R z3 | .error _ => False) z2) no3 z1) no3 s
/-- the element -/
def inB3 (P : Program) (w : World) (A : Around) (el : Expr) (acc : Value) (ce : PySem.Env) : (Shared → Prop) → Shared → Prop := fun R s =>
  wpAny (model P w) A (eval el ce) (fun x z1 => wpAny (model P w) A (call (.builtin "set.add") [acc, x]) (fun _ z2 => R z2) no3 z1) no3 s
theorem loop_out {gens : List Comprehension} {scope : Scope} {pos : Pos} (ht : ∀ it, compTurn (Expr.SetComp el gens scope pos) k it acc ce = (do
      standAt ip.pos
      match (← pyNext it) with
        | none => pure (.done .next)
        | some v => do
          letOwnedTupleGo tgt it v; assign tgt ce v
          let mut good := true
          for c in ifs do
            if good then good ← isTrue c ce (eval c ce)
          if good then
            let x ← eval ib ce; standAt ib.pos
            let x ← foldedSetIterable ib ce x
            let _ ← runOwn (.compStart (Expr.SetComp el gens scope pos) (k + 1) (← holding [x] (pyIter x)) acc ce) ce
          again (.compLoop (Expr.SetComp el gens scope pos) k it acc ce))) (hs : ∀ x, foldedSetIterable ib ce x = pure x) : LoopB P w A (Expr.SetComp el gens scope pos) k acc ce tgt ifs (outB P w A (Expr.SetComp el gens scope pos) (k + 1) ib acc ce) := by
  intro R it I turn n s hI
  refine codeAny_loop rfl I (fun n s hI => ?_) n hI
  show wpAny _ A ((compTurn (Expr.SetComp el gens scope pos) k it acc ce).onRaise (fun x => do noteFrame x ce; theTreesLotGoes x)) _ _ s
  refine wpAny_noted ?_
  rw [ht]
  refine wpAny_bind (wpAny_standAt (wpAny_bind (wpAny_mono (turn n s hI) (fun r z1 g1 => ?_) fun _ _ z => z.elim)))
  cases r with
  | none => exact wpAny_pure g1
  | some v =>
    refine wpAny_bind (wpAny_mono g1 (fun _ z2 g2 => ?_) fun _ _ z => z.elim)
    refine wpAny_bind (wpAny_mono g2 (fun _ z3 g3 => wpAny_bind (wpAny_mono g3 (fun good z4 g4 => ?_) fun _ _ z => z.elim)) fun _ _ z => z.elim)
    cases good with
    | false => exact wpAny_pure ⟨rfl, g4⟩
    | true =>
      have g5 : outB P w A (Expr.SetComp el gens scope pos) (k + 1) ib acc ce (fun z5 => ∃ m, m < n ∧ I m z5) z4 := g4
      refine wpAny_bind (wpAny_mono g5 (fun x z5 g6 => ?_) fun _ _ z => z.elim)
      refine wpAny_bind (wpAny_standAt (wpAny_bind (wpAny_of_eq (hs x) (wpAny_bind (wpAny_holding (wpAny_mono g6 (fun i2 z6 g7 => ?_) fun _ _ z => z.elim))))))
      refine wpAny_bind (wpAny_runOwn ?_)
      rw [Around.mark_none]
      refine codeAny_mono g7 fun r z7 hr => ?_
      cases r with
      | ok f => first | exact wpAny_pure ⟨rfl, hr⟩ | exact wpAny_bind (wpAny_pure (wpAny_pure ⟨rfl, hr⟩))
      | error e => exact hr.elim
theorem loop_in {gens : List Comprehension} {scope : Scope} {pos : Pos} (ht : ∀ it, compTurn (Expr.SetComp el gens scope pos) k it acc ce = (do
      standAt ip.pos
      match (← pyNext it) with
        | none => pure (.done .next)
        | some v => do
          letOwnedTupleGo tgt it v; assign tgt ce v
          let mut good := true
          for c in ifs do
            if good then good ← isTrue c ce (eval c ce)
          if good then
            (do let v ← eval el ce; standAt el.pos; let _ ← call (.builtin "set.add") [acc, v])
          again (.compLoop (Expr.SetComp el gens scope pos) k it acc ce))) : LoopB P w A (Expr.SetComp el gens scope pos) k acc ce tgt ifs (inB3 P w A el acc ce) := by
  intro R it I turn n s hI
  refine codeAny_loop rfl I (fun n s hI => ?_) n hI
  show wpAny _ A ((compTurn (Expr.SetComp el gens scope pos) k it acc ce).onRaise (fun x => do noteFrame x ce; theTreesLotGoes x)) _ _ s
  refine wpAny_noted ?_
  rw [ht]
  refine wpAny_bind (wpAny_standAt (wpAny_bind (wpAny_mono (turn n s hI) (fun r z1 g1 => ?_) fun _ _ z => z.elim)))
  cases r with
  | none => exact wpAny_pure g1
  | some v =>
    refine wpAny_bind (wpAny_mono g1 (fun _ z2 g2 => ?_) fun _ _ z => z.elim)
    refine wpAny_bind (wpAny_mono g2 (fun _ z3 g3 => wpAny_bind (wpAny_mono g3 (fun good z4 g4 => ?_) fun _ _ z => z.elim)) fun _ _ z => z.elim)
    cases good with
    | false => exact wpAny_pure ⟨rfl, g4⟩
    | true =>
      have g5 : inB3 P w A el acc ce (fun z5 => ∃ m, m < n ∧ I m z5) z4 := g4
      exact wpAny_bind (wpAny_bind (wpAny_mono g5 (fun x z5 g6 => wpAny_bind (wpAny_standAt (wpAny_bind (wpAny_mono g6 (fun _ z6 g7 => wpAny_pure (wpAny_pure ⟨rfl, g7⟩)) fun _ _ z => z.elim)))) fun _ _ z => z.elim))
end
/-! ### three clauses -/
section
variable {P : Program} {w : World} {A : Around} {ce : PySem.Env} {el ta ia tb ib tc ic : Expr} {fa fb fc : List Expr} {scope : Scope} {pos : Pos} {acc : Value}
abbrev E3 (el ta ia tb ib tc ic : Expr) (fa fb fc : List Expr) (scope : Scope) (pos : Pos) : Expr := .SetComp el [⟨ta, ia, fa, 0⟩, ⟨tb, ib, fb, 0⟩, ⟨tc, ic, fc, 0⟩] scope pos
theorem loop30 (hs : ∀ x, foldedSetIterable ib ce x = pure x) : LoopB P w A (E3 el ta ia tb ib tc ic fa fb fc scope pos) 0 acc ce ta fa (outB P w A (E3 el ta ia tb ib tc ic fa fb fc scope pos) 1 ib acc ce) := loop_out (ip := ia) (fun it => by rfl) hs
theorem loop31 (hs : ∀ x, foldedSetIterable ic ce x = pure x) : LoopB P w A (E3 el ta ia tb ib tc ic fa fb fc scope pos) 1 acc ce tb fb (outB P w A (E3 el ta ia tb ib tc ic fa fb fc scope pos) 2 ic acc ce) := loop_out (ip := ib) (fun it => by rfl) hs
theorem loop32 : LoopB P w A (E3 el ta ia tb ib tc ic fa fb fc scope pos) 2 acc ce tc fc (inB3 P w A el acc ce) := loop_in (ip := ic) (fun it => by rfl)
theorem start31 : StartB P w A (E3 el ta ia tb ib tc ic fa fb fc scope pos) 1 acc ce := by
  intro R it s h0 h
  refine codeAny_of_tree ?_
  show wpAny _ _ ((compStart (E3 el ta ia tb ib tc ic fa fb fc scope pos) 1 it acc ce).onRaise (fun x => do noteFrame x ce; standAt theWindowsPlace)) _ _ s
  refine wpAny_notedAt ?_
  unfold compStart
  show wpAny _ _ (ask >>= _) _ _ s
  refine wpAny_bind (wpAny_askSetting (wpAny_ite ?_))
  split
  · first | exact wpAny_bind (wpAny_pure (wpAny_pure (And.intro rfl h0))) | exact wpAny_pure (And.intro rfl h0)
  · first
      | exact wpAny_bind (wpAny_rule (wpAny_bind (wpAny_standAt (wpAny_bind (wpAny_mono h (fun i2 z g => wpAny_pure (And.intro rfl g)) fun _ _ x => x)))))
      | (refine wpAny_bind (wpAny_rule ?_); show wpAny _ _ (standAt ib.pos >>= _) _ _ s; exact wpAny_bind (wpAny_standAt (wpAny_bind (wpAny_mono h (fun i2 z g => wpAny_pure (And.intro rfl g)) fun _ _ x => x))))
theorem start32 : StartB P w A (E3 el ta ia tb ib tc ic fa fb fc scope pos) 2 acc ce := by
  intro R it s h0 h
  refine codeAny_of_tree ?_
  show wpAny _ _ ((compStart (E3 el ta ia tb ib tc ic fa fb fc scope pos) 2 it acc ce).onRaise (fun x => do noteFrame x ce; standAt theWindowsPlace)) _ _ s
  refine wpAny_notedAt ?_
  unfold compStart
  show wpAny _ _ (ask >>= _) _ _ s
  refine wpAny_bind (wpAny_askSetting (wpAny_ite ?_))
  split
  · first | exact wpAny_bind (wpAny_pure (wpAny_pure (And.intro rfl h0))) | exact wpAny_pure (And.intro rfl h0)
  · first
      | exact wpAny_bind (wpAny_rule (wpAny_bind (wpAny_standAt (wpAny_bind (wpAny_mono h (fun i2 z g => wpAny_pure (And.intro rfl g)) fun _ _ x => x)))))
      | (refine wpAny_bind (wpAny_rule ?_); show wpAny _ _ (standAt ic.pos >>= _) _ _ s; exact wpAny_bind (wpAny_standAt (wpAny_bind (wpAny_mono h (fun i2 z g => wpAny_pure (And.intro rfl g)) fun _ _ x => x))))
end
end Den

namespace Den
open PySem PySem.Spec PyProof.Rows L2
open Evl (Ex)
/-! ### what a clause's run comes to, within a comprehension's block -/
def InnerRun (Y : Cx) (B : (Shared → Prop) → Shared → Prop) (tin : TC) (ws : List Nat) : Prop :=
  ∀ (pins : List (Addr × Obj)) (s : Shared) (σ : L2.St) (H : Hp) (Nx : Hp → Prop) (R : Shared → Prop), L2.Inv Y pins σ H s → tin σ H Nx → (∀ s2 H2, L2.Inv Y pins (wipe σ ws) H2 s2 → Nx H2 → R s2) → B R s
section
variable {X : Cx} {s0 : Shared} {Hz : Hp} {scope : Scope} {ce : PySem.Env} {fz : List Addr} {Ex0 iter tgt el : Expr} {k : Nat} {ifs : List Expr} {acc : Value} {B : (Shared → Prop) → Shared → Prop} {tin : TC} {vs ws : List Nat} {wi : TI} {tg : TG} {tt : TT} {te : TE}
theorem inner_step (hc : X.calm = true) (hws : ∀ j ∈ ws, j ∈ vs) (hL : LoopB X.prog X.w X.A Ex0 k acc ce tgt ifs B) (hS : StartB X.prog X.w X.A Ex0 k acc ce)
    (pi : PI (X.blk s0 Hz scope ce fz) tgt iter wi) (pg : PG (X.blk s0 Hz scope ce fz) tgt tg) (pt : PTs (X.blk s0 Hz scope ce fz) ifs tt) (hB : InnerRun (X.blk s0 Hz scope ce fz) B tin ws) :
    InnerRun (X.blk s0 Hz scope ce fz) (outB X.prog X.w X.A Ex0 k iter acc ce) (tCz wi tg tt tin vs) vs := by
  intro pins z0 σ0 Ha Nx R Ia qa hR
  show wpAny (model X.prog X.w) X.A (eval iter ce) _ _ _
  refine thnF (pi.run pins z0 σ0 Ha _ Ia qa) fun xv z1 hx => thnF hx fun itv z2 hb => ?_
  obtain ⟨it, fp, tn, J, Hb, e, Ib, T, sb, fb, W, ⟨m0, w0⟩, turn⟩ := hb
  subst e
  have stat : ∀ {Hc : Hp}, (∀ b ∈ fp, Hc b = none) → ∀ b ∈ fp, FpOk (X.blk s0 Hz scope ce fz) pins Hc b := fun hn b m => ⟨hn b m, (fb b m).2⟩
  have loop : codeAny (model X.prog X.w) X.A (.compLoop Ex0 k (.ref it) acc ce) (fun r z => match r with | .ok _ => R z | .error _ => False) z2 := by
    refine hL _ _ (fun n z => ∃ j Hc, L2.Inv (X.blk s0 Hz scope ce fz) pins (wipe σ0 vs) Hc z ∧ tn j z.heap ∧ (∀ b ∈ fp, Hc b = none) ∧ W j n Hc) ?_ m0 z2 ⟨0, Hb, Ib.weak (wipe_length _ _) (fun j v e => (wipe_some e).1), sb, fun b m => (fb b m).1, w0⟩
    rintro n z3 ⟨j, Hc, Ic, sc, nc, wc⟩
    rcases turn j n Hc wc with ⟨stop, nx⟩ | ⟨go, Nx1, hNx, step⟩
    · refine thnF (T.done (X.blk s0 Hz scope ce fz) rfl rfl rfl hc j _ z3 (wipe σ0 vs) Hc (fun _ _ => False) Ic (stat nc) sc stop) fun r z4 ⟨hr, Id⟩ => ?_
      subst hr
      exact hR z4 Hc Id nx
    · refine thnF (T.item (X.blk s0 Hz scope ce fz) rfl rfl rfl hc j _ z3 (wipe σ0 vs) Hc (fun _ _ => False) Ic (stat nc) sc go) fun r z4 ⟨u, hr, hd⟩ => ?_
      subst hr
      refine thnF hd fun _ z5 ⟨x, He, Ie, re, ye, se, ne⟩ => ?_
      have Ip := Ie.pinned (stat ne) (T.obj _ _ se)
      refine thnF (pg.run _ z5 (wipe σ0 vs) He x u _ Ip re (step x He ye)) fun _ z6 ⟨σ1, Hf, If, hw, qf⟩ => ?_
      refine thnF (pt.run _ z6 σ1 Hf _ If qf) fun good z7 ⟨Hg, Ig, qg⟩ => ?_
      have fin : ∀ {σ2 : L2.St} {z : Shared} {Hh : Hp}, L2.Inv (X.blk s0 Hz scope ce fz) (pins ++ pinsAt fp z5.heap) σ2 Hh z → (wipe σ0 vs).length = σ2.length → (∀ (j : Nat) v, (wipe σ0 vs)[j]? = some (some v) → σ2[j]? = some (some v)) → Nx1 Hh →
          ∃ m, m < n ∧ ∃ j Hc, L2.Inv (X.blk s0 Hz scope ce fz) pins (wipe σ0 vs) Hc z ∧ tn j z.heap ∧ (∀ b ∈ fp, Hc b = none) ∧ W j m Hc := fun {σ2 z Hh} Ih hl hk nx => by
        obtain ⟨m2, hm, w2⟩ := hNx Hh nx
        have pin : ∀ b ∈ fp, ∀ o, z5.heap.get? b = some o → z.heap.get? b = some o ∧ Hh b = none := fun b m o e =>
          have y := Ih.pin (b, o) (List.mem_append_right _ (List.mem_append_right _ (mem_pinsAt m e)))
          ⟨y.1, y.2.1⟩
        refine ⟨m2, hm, j + 1, Hh, Ih.unpinned.weak hl hk, T.keep _ _ _ se fun b m o e => (pin b m o e).1, fun b m => ?_, w2⟩
        obtain ⟨o, e, _⟩ := T.obj _ _ se b m
        exact (pin b m o e).2
      cases good with
      | false =>
        simp only [Bool.false_eq_true, if_false] at qg ⊢
        exact fin Ig (by rw [← hw, wipe_length]) (fun j v e => by rw [← hw] at e; exact (wipe_some e).1) qg
      | true =>
        simp only [if_true] at qg ⊢
        refine hB _ z7 σ1 Hg Nx1 _ Ig qg fun z8 Hh Ih nx => fin Ih (by rw [← hw, wipe_length, wipe_length]) (fun j v e => ?_) nx
        rw [← hw] at e
        obtain ⟨y1, y2⟩ := wipe_some e
        rw [wipe_get fun m => y2 (hws j m)]
        exact y1
  exact hS _ _ _ loop (T.self X.A 0 _ _ _ sb loop)
def tElS (w : World) (te : TE) (D0 : Addr) : TC := fun σ H Nx => te σ H fun y H2 => ∃ (c : Int) (Sf : Int → Bool) (n : Nat), y = V.int c ∧ H2 D0 = some (SetO w D0 Sf n) ∧ n + 1 < scanBound ∧ Nx (upd H2 D0 (SetO w D0 (fun j => Sf j || decide (j = c)) (if Sf c = true then n else n + 1)))
theorem inner_el {D0 : Addr} (pe : PE (X.blk s0 Hz scope ce fz) el te) : InnerRun (X.blk s0 Hz scope ce fz) (inB3 X.prog X.w X.A el (.ref D0) ce) (tElS X.w te D0) [] := by
  intro pins z0 σ0 Ha Nx R Ia qa hR
  show wpAny (model X.prog X.w) X.A (eval el ce) _ _ _
  refine thnF (pe.run pins z0 σ0 Ha _ Ia qa) fun z z1 ⟨y, Hb, Ib, rb, c, Sf, n, ey, hD, room, nx⟩ => ?_
  subst ey
  obtain ⟨tk, rfl⟩ := rb
  have RR := setO_get Ib hD
  refine setR_add RR room fun h2 sb new => ?_
  have he : ∃ u, h2.get? D0 = some u := by
    have ⟨o, _, _, _, ho, _⟩ := new
    exact ⟨o, ho⟩
  exact hR _ _ (Ib.write (e := D0) (t' := z1.toks + 1) (by rw [hD]; trivial) (.inl rfl) (fun b u m hu => (sb.2 b m).trans hu) he (setO_new new)) nx
end
end Den

namespace Den
open PySem PySem.Spec PyProof.Rows L2
open Evl (Ex)
/-! ### {e for .. in .. for .. in .. for .. in ..}, whole numbers: what it comes to -/
def tSc3 (w : World) (wa : TI) (ga : TG) (da : TT) (wb : TI) (gb : TG) (db : TT) (wc : TI) (gc : TG) (dc : TT) (te : TE) (va vb vc : List Nat) : TE := fun σ H Q => wa σ H fun J H1 => ∀ D, H1 D = none →
  loopP J ga da (tCz wb gb db (tCz wc gc dc (tElS w te D) vc) vb) va σ (upd H1 D (SetO w D (fun _ => false) 0)) fun H2 => Q (.ref D) H2
section
variable {X : Cx} {el ta ia tb ib tc ic : Expr} {fa fb fc : List Expr} {scope : Scope} {own : List (Str × Nat)} {wa wb wc : TI} {ga gb gc : TG} {da db dc : TT} {te : TE} {vb vc : List Nat} {pos : Pos}
theorem pe_sc3 (hc : X.calm = true) (hN : X.N.Nodup) (pa : PI X ta ia wa) (ok : BlkOk X.N X.env.scope scope own) (hvb : ∀ j ∈ vb, j ∈ own.map (·.2)) (hvc : ∀ j ∈ vc, j ∈ vb)
    (hga : ∀ (s : Shared) (H : Hp) (C : Addr) (cl : List (Str × Addr)) (fp : List Addr), PG (X.blk s H scope (compEnvC scope cl C X.env) fp) ta ga) (hda : ∀ (s : Shared) (H : Hp) (C : Addr) (cl : List (Str × Addr)) (fp : List Addr), PTs (X.blk s H scope (compEnvC scope cl C X.env) fp) fa da)
    (pb : ∀ (s : Shared) (H : Hp) (C : Addr) (cl : List (Str × Addr)) (fp : List Addr), PI (X.blk s H scope (compEnvC scope cl C X.env) fp) tb ib wb)
    (hgb : ∀ (s : Shared) (H : Hp) (C : Addr) (cl : List (Str × Addr)) (fp : List Addr), PG (X.blk s H scope (compEnvC scope cl C X.env) fp) tb gb) (hdb : ∀ (s : Shared) (H : Hp) (C : Addr) (cl : List (Str × Addr)) (fp : List Addr), PTs (X.blk s H scope (compEnvC scope cl C X.env) fp) fb db)
    (pc : ∀ (s : Shared) (H : Hp) (C : Addr) (cl : List (Str × Addr)) (fp : List Addr), PI (X.blk s H scope (compEnvC scope cl C X.env) fp) tc ic wc)
    (hgc : ∀ (s : Shared) (H : Hp) (C : Addr) (cl : List (Str × Addr)) (fp : List Addr), PG (X.blk s H scope (compEnvC scope cl C X.env) fp) tc gc) (hdc : ∀ (s : Shared) (H : Hp) (C : Addr) (cl : List (Str × Addr)) (fp : List Addr), PTs (X.blk s H scope (compEnvC scope cl C X.env) fp) fc dc)
    (he : ∀ (s : Shared) (H : Hp) (C : Addr) (cl : List (Str × Addr)) (fp : List Addr), PE (X.blk s H scope (compEnvC scope cl C X.env) fp) el te)
    (hs : ∀ x, foldedSetIterable ia X.env x = pure x := by intro _; rfl) (hs1 : ∀ env x, foldedSetIterable ib env x = pure x := by intro _ _; rfl) (hs2 : ∀ env x, foldedSetIterable ic env x = pure x := by intro _ _; rfl) :
    PE X (E3 el ta ia tb ib tc ic fa fb fc scope pos) (tSc3 X.w wa ga da wb gb db wc gc dc te (own.map (·.2)) vb vc) := by
  refine ⟨fun pins s σ H Q I h => ?_⟩
  rw [PpSet.eval_SetComp]
  have hfree : ∀ y ∈ scope.names, y.2 = .free → ∃ c, X.env.cells.lookup y.1 = some c := fun y m e => (ok.free y m e).elim (fun z => I.ok.has _ (.inl z)) fun z => I.ok.has _ (.inr z)
  refine wpAny_comprehension_free (use := none) rfl hs (closure_ok hfree) ok.kind (fun y m e => by rw [ok.uniq y m, e]) (thn (pa.run pins s σ H _ I h) fun xv s1 hx => thn hx fun itv s2 hb => ?_)
  obtain ⟨it, fp, tn, J, Hb, e, Ib, T, sb, fpb, q⟩ := hb
  subst e
  refine PpSet.newSet_ok (newEnv_comp ?_)
  generalize hD : s2.heap.objs.size = D
  have nD : Hb D = none := Ib.hok.fresh (Nat.le_of_eq hD)
  obtain ⟨W, ⟨m0, w0⟩, turn⟩ := q D nD
  generalize hs3 : ({ s2 with heap := s2.heap.push (oS X.w) } : Shared) = s3
  have hh3 : s3.heap = s2.heap.push (oS X.w) := by rw [← hs3]
  have Ic : L2.Inv X pins σ (upd Hb D (SetO X.w D (fun _ => false) 0)) s3 := by
    rw [← hs3]
    refine Ib.laid (t' := s2.toks) (fun b o e => Heap.get?_push_of_some _ e) (Nat.le_of_eq hD) ?_
    rw [← hD]
    exact setO_new (setR_fresh X.w)
  have lt : ∀ b ∈ fp, b < s2.heap.objs.size := fun b m => by
    obtain ⟨o, e, _⟩ := T.obj _ _ sb b m
    exact Heap.lt_size e
  have fpc : ∀ b ∈ fp, FpOk X pins (upd Hb D (SetO X.w D (fun _ => false) 0)) b ∧ b < s3.heap.objs.size := fun b m => by
    refine ⟨⟨?_, (fpb b m).2⟩, by rw [hh3, Heap.size_push]; exact Nat.lt_succ_of_lt (lt b m)⟩
    rw [upd_ne (by rw [← hD]; exact Nat.ne_of_lt (lt b m))]
    exact (fpb b m).1
  have sc : tn 0 s3.heap := T.keep _ _ _ sb fun b _ o e => by rw [hh3]; exact Heap.get?_push_of_some _ e
  have Id := block_start Ic ok hN fpc
  have qga := hga s3 (upd Hb D (SetO X.w D (fun _ => false) 0)) s3.heap.objs.size (cellsFrom (s3.heap.objs.size + 1) scope.names (cloFrom X.env.cells scope.names [])) fp
  have qda := hda s3 (upd Hb D (SetO X.w D (fun _ => false) 0)) s3.heap.objs.size (cellsFrom (s3.heap.objs.size + 1) scope.names (cloFrom X.env.cells scope.names [])) fp
  have qpb := pb s3 (upd Hb D (SetO X.w D (fun _ => false) 0)) s3.heap.objs.size (cellsFrom (s3.heap.objs.size + 1) scope.names (cloFrom X.env.cells scope.names [])) fp
  have qgb := hgb s3 (upd Hb D (SetO X.w D (fun _ => false) 0)) s3.heap.objs.size (cellsFrom (s3.heap.objs.size + 1) scope.names (cloFrom X.env.cells scope.names [])) fp
  have qdb := hdb s3 (upd Hb D (SetO X.w D (fun _ => false) 0)) s3.heap.objs.size (cellsFrom (s3.heap.objs.size + 1) scope.names (cloFrom X.env.cells scope.names [])) fp
  have qpc := pc s3 (upd Hb D (SetO X.w D (fun _ => false) 0)) s3.heap.objs.size (cellsFrom (s3.heap.objs.size + 1) scope.names (cloFrom X.env.cells scope.names [])) fp
  have qgc := hgc s3 (upd Hb D (SetO X.w D (fun _ => false) 0)) s3.heap.objs.size (cellsFrom (s3.heap.objs.size + 1) scope.names (cloFrom X.env.cells scope.names [])) fp
  have qdc := hdc s3 (upd Hb D (SetO X.w D (fun _ => false) 0)) s3.heap.objs.size (cellsFrom (s3.heap.objs.size + 1) scope.names (cloFrom X.env.cells scope.names [])) fp
  have qe := he s3 (upd Hb D (SetO X.w D (fun _ => false) 0)) s3.heap.objs.size (cellsFrom (s3.heap.objs.size + 1) scope.names (cloFrom X.env.cells scope.names [])) fp
  show codeAny _ _ (.compStart (E3 el ta ia tb ib tc ic fa fb fc scope pos) 0 (.ref it) (.ref D) (compEnvC scope (cellsFrom (s3.heap.objs.size + 1) scope.names (cloFrom X.env.cells scope.names [])) s3.heap.objs.size X.env)) (compPost (model X.prog X.w) X.A X.xe none (EP X pins σ Q) (.ref D) s3.heap.objs.size) { s3 with heap := pushCells (s3.heap.push { cls := .type "dict", data := .dict #[] }) scope.names }
  have nfp : ∀ b ∈ fp, (upd Hb D (SetO X.w D (fun _ => false) 0)) b = none := fun b m => (fpc b m).1.1
  generalize hce : compEnvC scope (cellsFrom (s3.heap.objs.size + 1) scope.names (cloFrom X.env.cells scope.names [])) s3.heap.objs.size X.env = ce at Id qga qda qpb qgb qdb qpc qgc qdc qe ⊢
  have cL : ce.locals = s3.heap.objs.size := by subst hce; rfl
  generalize hHz : upd Hb D (SetO X.w D (fun _ => false) 0) = Hz at Ic Id qga qda qpb qgb qdb qpc qgc qdc qe w0 nfp fpc
  generalize hs4 : ({ s3 with heap := pushCells (s3.heap.push { cls := .type "dict", data := .dict #[] }) scope.names } : Shared) = s4 at Id ⊢
  have sd : tn 0 s4.heap := T.keep _ _ _ sc fun b _ o e => by rw [← hs4]; exact pushCells_keeps _ _ _ _ (Heap.get?_push_of_some _ e)
  have runE := inner_el (X := X) (s0 := s3) (Hz := Hz) (scope := scope) (ce := ce) (fz := fp) (D0 := D) qe
  have runC := inner_step (Ex0 := E3 el ta ia tb ib tc ic fa fb fc scope pos) (k := 2) (vs := vc) hc (fun j m => by cases m) loop32 start32 qpc qgc qdc runE
  have runB := inner_step (Ex0 := E3 el ta ia tb ib tc ic fa fb fc scope pos) (k := 1) (vs := vb) hc hvc (loop31 (hs2 ce)) start31 qpb qgb qdb runC
  have stat : ∀ {σ2 : L2.St} {H2 : Hp} {z : Shared}, L2.Inv (X.blk s3 Hz scope ce fp) [] σ2 H2 z → (∀ b ∈ fp, H2 b = none) → ∀ b ∈ fp, FpOk (X.blk s3 Hz scope ce fp) [] H2 b := fun {σ2 H2 z} Iy hn b m =>
    ⟨hn b m, (Iy.ok.exf b m).1, Iy.ok.exfs b m, .inl m, fun x c e => (Iy.ok.exf b m).2 x c e, fun p hp => absurd (show p ∈ ([] : List (Addr × Obj)) ++ [] from hp) (by simp)⟩
  have loop : codeAny (model X.prog X.w) X.A (.compLoop (E3 el ta ia tb ib tc ic fa fb fc scope pos) 0 (.ref it) (.ref D) ce) (compPost (model X.prog X.w) X.A X.xe none (EP X pins σ Q) (.ref D) s3.heap.objs.size) s4 := by
    refine loop30 (hs1 ce) _ _ (fun n z => ∃ i H2, L2.Inv (X.blk s3 Hz scope ce fp) [] (wipe σ (own.map (·.2))) H2 z ∧ tn i z.heap ∧ (∀ b ∈ fp, H2 b = none) ∧ W i n H2) ?_ m0 s4 ⟨0, Hz, Id, sd, nfp, w0⟩
    rintro n z3 ⟨i, Hc, Iy, sy, ny, wy⟩
    rcases turn i n Hc wy with ⟨stop, qq⟩ | ⟨go, Nx, hNx, step⟩
    · refine thnF (T.done (X.blk s3 Hz scope ce fp) rfl rfl rfl hc i [] z3 _ Hc (fun _ _ => False) Iy (stat Iy ny) sy stop) fun r z4 ⟨hr, Iq⟩ => ?_
      subst hr
      have Ir : L2.Inv X pins σ Hc z4 := Ic.call' (ch := fp) Iq.os Iq.base Iq.hok Iq.bare fun b m => ⟨(fpc b m).1.2.2.2.1, (fpc b m).1.2.1, (fpc b m).1.2.2.2.2.1, (fpc b m).1.2.2.2.2.2⟩
      have nC : Hc s3.heap.objs.size = none := by
        have y : Hc ce.locals = none := Iq.free
        rwa [cL] at y
      obtain ⟨m, hn, _⟩ := Iq.loc
      have hn2 : z4.heap.Ns ce.locals m := hn
      rw [cL] at hn2
      refine ⟨m, hn2, fun h2 sb2 => ?_⟩
      obtain ⟨f0, f1, f2, f3, f4, f5⟩ := Ic.fpOk (Nat.le_refl _) nC
      exact ⟨.ref D, Hc, Ir.turned (t' := z4.toks) (fun b o mb e => (sb2.2 b mb).trans e) f0 f1 f3 f4 f5, rfl, qq⟩
    · refine thnF (T.item (X.blk s3 Hz scope ce fp) rfl rfl rfl hc i [] z3 _ Hc (fun _ _ => False) Iy (stat Iy ny) sy go) fun r z4 ⟨u, hr, hd⟩ => ?_
      subst hr
      refine thnF hd fun _ z5 ⟨x, He, Ie, re, ye, se, ne⟩ => ?_
      have Ip := Ie.pinned (stat Ie ne) (T.obj _ _ se)
      refine thnF (qga.run _ z5 _ He x u _ Ip re (step x He ye)) fun _ z6 ⟨σ1, Hf, If, hw, qf⟩ => ?_
      refine thnF (qda.run _ z6 σ1 Hf _ If qf) fun good z7 ⟨Hg, Ig, qg⟩ => ?_
      have fin : ∀ {σ2 : L2.St} {z : Shared} {Hh : Hp}, L2.Inv (X.blk s3 Hz scope ce fp) ([] ++ pinsAt fp z5.heap) σ2 Hh z → (wipe σ (own.map (·.2))).length = σ2.length → (∀ (j : Nat) v, (wipe σ (own.map (·.2)))[j]? = some (some v) → σ2[j]? = some (some v)) → Nx Hh →
          ∃ m, m < n ∧ ∃ i H2, L2.Inv (X.blk s3 Hz scope ce fp) [] (wipe σ (own.map (·.2))) H2 z ∧ tn i z.heap ∧ (∀ b ∈ fp, H2 b = none) ∧ W i m H2 := fun {σ2 z Hh} Ih hl hk nx => by
        obtain ⟨m2, hm, w2⟩ := hNx Hh nx
        have pin : ∀ b ∈ fp, ∀ o, z5.heap.get? b = some o → z.heap.get? b = some o ∧ Hh b = none := fun b m o e =>
          have y := Ih.pin (b, o) (List.mem_append_right _ (List.mem_append_right _ (mem_pinsAt m e)))
          ⟨y.1, y.2.1⟩
        refine ⟨m2, hm, i + 1, Hh, (Ih.unpinned (pins := [])).weak hl hk, T.keep _ _ _ se fun b m o e => (pin b m o e).1, fun b m => ?_, w2⟩
        obtain ⟨o, e, _⟩ := T.obj _ _ se b m
        exact (pin b m o e).2
      cases good with
      | false =>
        simp only [Bool.false_eq_true, if_false] at qg ⊢
        exact fin Ig (by rw [← hw, wipe_length]) (fun j v e => by rw [← hw] at e; exact (wipe_some e).1) qg
      | true =>
        simp only [if_true] at qg ⊢
        refine runB _ z7 σ1 Hg Nx _ Ig qg fun z8 Hh Ih nx => fin Ih (by rw [← hw, wipe_length, wipe_length]) (fun j v e => ?_) nx
        rw [← hw] at e
        obtain ⟨y1, y2⟩ := wipe_some e
        rw [wipe_get fun m => y2 (hvb j m)]
        exact y1
  exact PpSet.codeAny_compStart_set loop (T.self X.A 0 _ _ _ sd loop)
end
end Den

namespace Den
open PySem PySem.Spec PyProof.Rows L2
open Evl (Ex)
/-! ### len({e for .. in .. for .. in .. for .. in ..}), whole numbers -/
def RAs (w : World) (D0 : Addr) : Hp → List Int → HO → Prop := fun _ acc o => ∃ Sf : Int → Bool, o = SetO w D0 Sf acc.length ∧ ∀ k, Sf k = decide (k ∈ acc)
theorem moS {w : World} {D0 : Addr} : ∀ S S' a o, Ex S S' → RAs w D0 S a o → RAs w D0 S' a o := fun _ _ _ _ _ h => h
def addS (acc : List Int) (c : Int) : List Int := if c ∈ acc then acc else acc ++ [c]
def elS (fe : ME XV) : List Int → Stt → Option (List Int × Stt) := fun acc q => match fe q with
  | some (.ok (.d (.int c)), q2) => if acc.length < 1000 then some (addS acc c, q2) else none
  | _ => none
theorem tokC_elS {K : PySem.W.Frag} {w : World} {D0 : Addr} {te : TE} {fe : ME XV} (he : Tok (RX K) K W0 te fe) : TokC K (RAs w D0) D0 [] (tElS w te D0) (elS fe) := by
  intro F S H r σ q acc o accE qE Nx E ra hz P
  obtain ⟨Sf, rfl, hS⟩ := ra
  unfold elS at hz
  cases e : fe q with
  | none => rw [e] at hz; cases hz
  | some y =>
    obtain ⟨x, q1⟩ := y
    rw [e] at hz
    cases x with
    | error c => cases hz
    | ok x =>
      cases x with
      | h n => cases hz
      | d x =>
        cases x with
        | int c =>
          have hz' : (if acc.length < 1000 then some (addS acc c, q1) else none) = some (accE, qE) := hz
          obtain ⟨hl, ez⟩ := ifs hz'
          cases ez
          refine he _ S H r σ q _ E e _ fun v S1 H1 r1 e1 k1 E1 rv => ?_
          have rv' : Rep K S1 (.int c) v := rv
          rw [Rep] at rv'
          refine ⟨c, Sf, acc.length, rv', E1.fr upd_same, by unfold scanBound; omega, ?_⟩
          refine P S1 _ r1 _ e1 k1 (E1.write _) ⟨fun j => Sf j || decide (j = c), ?_, fun k => ?_⟩
          · congr 1
            unfold addS
            by_cases m : c ∈ acc
            · rw [hS c, decide_eq_true m, if_pos rfl, if_pos m]
            · rw [hS c, decide_eq_false m, if_neg (by decide), if_neg m]
              simp
          · show (Sf k || decide (k = c)) = _
            rw [hS k]
            unfold addS
            by_cases m : c ∈ acc
            · rw [if_pos m]
              by_cases kc : k = c
              · subst kc
                simp [m]
              · simp [kc]
            · rw [if_neg m]
              simp
        | _ => cases hz
def rLenO (w : World) : List V → Hp → VK → Prop := fun vs H Q => ∃ (D0 : Addr) (Sf : Int → Bool) (n : Nat), vs = [V.ref D0] ∧ H D0 = some (SetO w D0 Sf n) ∧ Q (.int n) H
theorem call_lenO {X : Cx} : CallR X (.builtin "len") (rLenO X.w) := by
  intro pins s σ H vs us Q I r h
  obtain ⟨D0, Sf, n, rfl, hD, q⟩ := h
  obtain rfl := Vals.ref1 r
  obtain ⟨o, es, ep, tt, ho, hex, hd, _, nd, hmm, hs, hf, en, _, _⟩ := setO_get I hD
  exact call_len_set ho hex hd hf (by unfold scanBound at hs; omega) ⟨.int n, H, I.tok _, ⟨_, by rw [en]⟩, q⟩
def eLenSc3 (va : List Nat) (fi : ME (List D)) (a : XV → Stt → Option Stt) (gt : ME Bool) (vb : List Nat) (fb : ME (List D)) (ab : XV → Stt → Option Stt) (gb : ME Bool) (vc : List Nat) (fc : ME (List D)) (ac : XV → Stt → Option Stt) (gc : ME Bool) (fe : ME XV) : ME XV :=
  bnd fi fun ds q => match lcL va a gt (lcC vb fb ab gb (lcC vc fc ac gc (elS fe))) ds [] (wipeQ q va) with
    | none => none
    | some (acc, q2) => some (.ok (.d (.int (acc.length : Nat))), backQ q q2 va)
section
variable {X : Cx} {W : WX} {el ta ia tb ib tc ic : Expr} {fa fb fc : List Expr} {scope : Scope} {own : List (Str × Nat)} {wa wb wc : TI} {ga gb gc : TG} {da db dc : TT} {te : TE} {vb vc ja jb jc : List Nat} {pos p q : Pos}
  {sa sb sc : XV → Stt → Option Stt} {na nb nc : ME (List D)} {ba bb bc : ME Bool} {fe : ME XV}
theorem is_lenSc3 (hm : X.mg "len" = none) (hN : X.N.Nodup) (pa : IsI X W ta ia wa na) (ok : BlkOk X.N X.env.scope scope own)
    (hga : ∀ (s : Shared) (H : Hp) (C : Addr) (cl : List (Str × Addr)) (fp : List Addr), IsG (X.blk s H scope (compEnvC scope cl C X.env) fp) ta ga ja sa) (hda : ∀ (s : Shared) (H : Hp) (C : Addr) (cl : List (Str × Addr)) (fp : List Addr), IsTs (X.blk s H scope (compEnvC scope cl C X.env) fp) W0 fa da ba)
    (pb : ∀ (s : Shared) (H : Hp) (C : Addr) (cl : List (Str × Addr)) (fp : List Addr), IsI (X.blk s H scope (compEnvC scope cl C X.env) fp) W0 tb ib wb nb)
    (hgb : ∀ (s : Shared) (H : Hp) (C : Addr) (cl : List (Str × Addr)) (fp : List Addr), IsG (X.blk s H scope (compEnvC scope cl C X.env) fp) tb gb jb sb) (hdb : ∀ (s : Shared) (H : Hp) (C : Addr) (cl : List (Str × Addr)) (fp : List Addr), IsTs (X.blk s H scope (compEnvC scope cl C X.env) fp) W0 fb db bb)
    (pc : ∀ (s : Shared) (H : Hp) (C : Addr) (cl : List (Str × Addr)) (fp : List Addr), IsI (X.blk s H scope (compEnvC scope cl C X.env) fp) W0 tc ic wc nc)
    (hgc : ∀ (s : Shared) (H : Hp) (C : Addr) (cl : List (Str × Addr)) (fp : List Addr), IsG (X.blk s H scope (compEnvC scope cl C X.env) fp) tc gc jc sc) (hdc : ∀ (s : Shared) (H : Hp) (C : Addr) (cl : List (Str × Addr)) (fp : List Addr), IsTs (X.blk s H scope (compEnvC scope cl C X.env) fp) W0 fc dc bc)
    (he : ∀ (s : Shared) (H : Hp) (C : Addr) (cl : List (Str × Addr)) (fp : List Addr), IsE (X.blk s H scope (compEnvC scope cl C X.env) fp) W0 el te fe)
    (hja : ∀ j ∈ ja, j ∈ own.map (·.2) := by decide) (hjb : ∀ j ∈ jb, j ∈ vb := by decide) (hjc : ∀ j ∈ jc, j ∈ vc := by decide) (hvb : ∀ j ∈ vb, j ∈ own.map (·.2) := by decide) (hvc : ∀ j ∈ vc, j ∈ vb := by decide) (hc : X.calm = true := by rfl) (hg : Gl X "len" := by rfl)
    (hs : ∀ x, foldedSetIterable ia X.env x = pure x := by intro _; rfl) (hs1 : ∀ env x, foldedSetIterable ib env x = pure x := by intro _ _; rfl) (hs2 : ∀ env x, foldedSetIterable ic env x = pure x := by intro _ _; rfl)
    (he0 : starEach [E3 el ta ia tb ib tc ic fa fb fc scope q] X.env = (false, eval (E3 el ta ia tb ib tc ic fa fb fc scope q) X.env) :: starEach [] X.env := by rfl) (hpl : (backTo pos (starEach [] X.env)).any (·.1) = false := by rfl) :
    IsE X W (.Call (.Name "len" p) [E3 el ta ia tb ib tc ic fa fb fc scope q] [] pos) (tCB (rLenO X.w) (tCons (tSc3 X.w wa ga da wb gb db wc gc dc te (own.map (·.2)) vb vc) tNil)) (eLenSc3 (own.map (·.2)) na sa ba vb nb sb bb vc nc sc bc fe) := by
  refine ⟨pe_callB call_lenO hg hm PySem.boot_len (pa_cons (pe_sc3 hc hN pa.pi ok hvb hvc (fun s H C cl fp => (hga s H C cl fp).pg) (fun s H C cl fp => (hda s H C cl fp).pts) (fun s H C cl fp => (pb s H C cl fp).pi) (fun s H C cl fp => (hgb s H C cl fp).pg) (fun s H C cl fp => (hdb s H C cl fp).pts)
    (fun s H C cl fp => (pc s H C cl fp).pi) (fun s H C cl fp => (hgc s H C cl fp).pg) (fun s H C cl fp => (hdc s H C cl fp).pts) (fun s H C cl fp => (he s H C cl fp).pe) hs hs1 hs2) pa_nil he0) (by decide) (by decide) he0 hpl, ?_⟩
  refine Tok.bind (t2 := fun (J : It) (σ : L2.St) (H1 : Hp) (Q : VK) => ∀ D, H1 D = none → loopP J ga da (tCz wb gb db (tCz wc gc dc (tElS X.w te D) vc) vb) (own.map (·.2)) σ (upd H1 D (SetO X.w D (fun _ => false) 0)) fun H2 => rLenO X.w [.ref D] H2 Q) pa.ok fun ds J F S H r σ q z E w hz Q P => ?_
  have hz0 : (match lcL (own.map (·.2)) sa ba (lcC vb nb sb bb (lcC vc nc sc bc (elS fe))) ds [] (wipeQ q (own.map (·.2))) with
    | none => none
    | some (acc, q2) => some ((Except.ok (XV.d (.int (acc.length : Nat))) : Except Value XV), backQ q q2 (own.map (·.2)))) = some z := hz
  cases em : lcL (own.map (·.2)) sa ba (lcC vb nb sb bb (lcC vc nc sc bc (elS fe))) ds [] (wipeQ q (own.map (·.2))) with
  | none => rw [em] at hz0; cases hz0
  | some zz =>
    obtain ⟨accE, qE⟩ := zz
    rw [em] at hz0
    cases hz0
    intro D0 hD
    have hF := E.newF hD
    refine loopP_ok (RA := RAs X.w D0) (F := F) moS (hga dS (fun _ => none) 0 [] []).ok (hda dS (fun _ => none) 0 [] []).ok
      (tokC_loop moS (pb dS (fun _ => none) 0 [] []).ok (hgb dS (fun _ => none) 0 [] []).ok (hdb dS (fun _ => none) 0 [] []).ok
        (tokC_loop moS (pc dS (fun _ => none) 0 [] []).ok (hgc dS (fun _ => none) 0 [] []).ok (hdc dS (fun _ => none) 0 [] []).ok (tokC_elS (he dS (fun _ => none) 0 [] []).ok) hjc (fun j h => by cases h)) hjb hvc) hja hvb w (E.add hD _) ⟨fun _ => false, rfl, fun k => rfl⟩ em fun S1 H1 r1 o1 e1 k1 E1 ra => ?_
    obtain ⟨Sf, rfl, hS⟩ := ra
    obtain ⟨E2, e2⟩ := (Env.back e1 k1 E E1).settle hF
    refine ⟨D0, Sf, accE.length, rfl, E1.fr upd_same, P _ _ H1 r1 (e1.trans e2) k1 E2 ?_⟩
    exact (rp_int : Rep X.K (upd S1 D0 (SetO X.w D0 Sf accE.length)) (.int (accE.length : Nat)) (.int (accE.length : Nat)))
end
end Den

namespace Den
open PySem PySem.Spec PyProof.Rows L2
open Evl (Ex)
/-! ### several clauses, that leave all else as it is -/
theorem lcL_fold {A : Type} {vs : List Nat} {a : XV → Stt → Option Stt} {gt : ME Bool} {body : A → Stt → Option (A × Stt)} {q : Stt} (f : A → D → A) (inv : A → Prop) : ∀ (ds : List D) (acc : A), (∀ d ∈ ds, ∀ acc, inv acc → ∃ q1 q3, a (.d d) q = some q1 ∧ gt q1 = some (.ok true, q1) ∧ body acc q1 = some (f acc d, q3) ∧ wipeQ q3 vs = q ∧ inv (f acc d)) → inv acc →
    lcL vs a gt body ds acc q = some (ds.foldl f acc, q) ∧ inv (ds.foldl f acc)
  | [], acc, _, i => ⟨rfl, i⟩
  | d :: ds, acc, h, i => by
    obtain ⟨q1, q3, h1, h2, h3, h4, h5⟩ := h d (by simp) acc i
    obtain ⟨k1, k2⟩ := lcL_fold f inv ds (f acc d) (fun e m => h e (by simp [m])) h5
    exact ⟨by simp only [lcL, h1, h2, h3, h4, k1, List.foldl_cons], k2⟩
theorem elL_ok {fe : ME XV} {acc : List D} {q q1 : Stt} {x : D} (h : fe q = some (.ok (.d x), q1)) (hl : acc.length < big) : elL fe acc q = some (acc ++ [x], q1) := by
  simp only [elL, h, if_pos hl]
theorem elS_ok {fe : ME XV} {acc : List Int} {q q1 : Stt} {c : Int} (h : fe q = some (.ok (.d (.int c)), q1)) (hl : acc.length < 1000) : elS fe acc q = some (addS acc c, q1) := by
  simp only [elS, h, if_pos hl]
theorem lcC_ok {A : Type} {vs : List Nat} {fi : ME (List D)} {a : XV → Stt → Option Stt} {gt : ME Bool} {body : A → Stt → Option (A × Stt)} {acc : A} {q q1 : Stt} {ds : List D} {z : Option (A × Stt)} (h : fi q = some (.ok ds, q1)) (k : lcL vs a gt body ds acc (wipeQ q1 vs) = z) : lcC vs fi a gt body acc q = z := by
  simp only [lcC, h, k]
/-- an inner list, appended -/
theorem lcL_app {vs : List Nat} {a : XV → Stt → Option Stt} {fe : ME XV} {q : Stt} (F : D → D) : ∀ (ds acc : List D), (∀ d ∈ ds, ∃ q1, a (.d d) q = some q1 ∧ fe q1 = some (.ok (.d (F d)), q1) ∧ wipeQ q1 vs = q) → acc.length + ds.length ≤ big →
    lcL vs a (ret true) (elL fe) ds acc q = some (acc ++ ds.map F, q)
  | [], acc, _, _ => by
    rw [List.map_nil, List.append_nil]
    rfl
  | d :: ds, acc, h, hl => by
    obtain ⟨q1, h1, h2, h3⟩ := h d (by simp)
    have hl' : acc.length < big := by simp at hl; omega
    have ih := lcL_app (vs := vs) (a := a) (fe := fe) (q := q) F ds (acc ++ [F d]) (fun e m => h e (by simp [m])) (by simp at hl ⊢; omega)
    simp only [lcL, h1, ret, elL_ok h2 hl', h3, ih]
    simp
theorem lcL2_app {vs vs1 : List Nat} {a a1 : XV → Stt → Option Stt} {fi1 : ME (List D)} {fe : ME XV} {q : Stt} (es : D → List D) (F : D → D → D) : ∀ (ds acc : List D), (∀ d ∈ ds, ∃ q1, a (.d d) q = some q1 ∧ fi1 q1 = some (.ok (es d), q1) ∧ wipeQ (wipeQ q1 vs1) vs = q ∧
      ∀ e ∈ es d, ∃ q2, a1 (.d e) (wipeQ q1 vs1) = some q2 ∧ fe q2 = some (.ok (.d (F d e)), q2) ∧ wipeQ q2 vs1 = wipeQ q1 vs1) → acc.length + (ds.flatMap fun d => (es d).map (F d)).length ≤ big →
    lcL vs a (ret true) (lcC vs1 fi1 a1 (ret true) (elL fe)) ds acc q = some (acc ++ ds.flatMap fun d => (es d).map (F d), q)
  | [], acc, _, _ => by
    rw [List.flatMap_nil, List.append_nil]
    rfl
  | d :: ds, acc, h, hl => by
    obtain ⟨q1, h1, h2, h3, h4⟩ := h d (by simp)
    rw [List.flatMap_cons, List.length_append, List.length_map] at hl
    have hb := lcC_ok (body := elL fe) (acc := acc) h2 (lcL_app (F d) (es d) acc (fun e m => let ⟨q2, k1, k2, k3⟩ := h4 e m; ⟨q2, k1, k2, k3⟩) (by omega))
    have ih := lcL2_app (vs := vs) (vs1 := vs1) (a := a) (a1 := a1) (fi1 := fi1) (fe := fe) (q := q) es F ds (acc ++ (es d).map (F d)) (fun e m => h e (by simp [m])) (by rw [List.length_append, List.length_map]; omega)
    have hb' : lcC vs1 fi1 a1 (ret true) (elL fe) acc q1 = some (acc ++ (es d).map (F d), wipeQ q1 vs1) := hb
    simp only [lcL, h1, ret] at *
    rw [hb']
    simp only [h3, ih, List.flatMap_cons, List.append_assoc]
theorem lLc2_ok {vs vs1 : List Nat} {fi fi1 : ME (List D)} {a a1 : XV → Stt → Option Stt} {fe : ME XV} (es : D → List D) (F : D → D → D) {q q0 : Stt} {ds : List D} (hf : fi q = some (.ok ds, q0)) (hb : backQ q0 (wipeQ q0 vs) vs = q0)
    (h : ∀ d ∈ ds, ∃ q1, a (.d d) (wipeQ q0 vs) = some q1 ∧ fi1 q1 = some (.ok (es d), q1) ∧ wipeQ (wipeQ q1 vs1) vs = wipeQ q0 vs ∧ ∀ e ∈ es d, ∃ q2, a1 (.d e) (wipeQ q1 vs1) = some q2 ∧ fe q2 = some (.ok (.d (F d e)), q2) ∧ wipeQ q2 vs1 = wipeQ q1 vs1) (hl : (ds.flatMap fun d => (es d).map (F d)).length ≤ big) :
    lLc2 vs fi a (ret true) vs1 fi1 a1 (ret true) fe q = some (.ok (ds.flatMap fun d => (es d).map (F d)), q0) := by
  have e := lcL2_app (vs := vs) (vs1 := vs1) (a := a) (a1 := a1) (fi1 := fi1) (fe := fe) (q := wipeQ q0 vs) es F ds [] h (by simpa using hl)
  simp only [lLc2, bnd, hf, e, hb, List.nil_append]
/-! ### the number of different ones -/
theorem addS_mem {acc : List Int} {c k : Int} : k ∈ addS acc c ↔ k ∈ acc ∨ k = c := by
  unfold addS
  by_cases m : c ∈ acc
  · rw [if_pos m]
    constructor
    · exact .inl
    · rintro (h | rfl)
      · exact h
      · exact m
  · rw [if_neg m]
    simp
theorem addS_nd {acc : List Int} {c : Int} (h : acc.Nodup) : (addS acc c).Nodup := by
  unfold addS
  by_cases m : c ∈ acc
  · rw [if_pos m]
    exact h
  · rw [if_neg m]
    refine List.nodup_append.mpr ⟨h, by simp, fun a ha b hb => ?_⟩
    rw [List.mem_singleton.mp hb]
    intro z
    subst z
    exact m ha
theorem nd_len {a b : List Int} (ha : a.Nodup) (hb : b.Nodup) (h : ∀ k, k ∈ a ↔ k ∈ b) : a.length = b.length :=
  Nat.le_antisymm (nd_le ha fun k m => (h k).mp m) (nd_le hb fun k m => (h k).mpr m)
theorem mx_fold {ns : List Int} (h : ∀ n ∈ ns, 0 ≤ n) : mx 0 ns = ns.foldl max 0 := by
  cases ns with
  | nil => rfl
  | cons n ns =>
    show ns.foldl max n = ns.foldl max (max 0 n)
    rw [Int.max_eq_right (h n (by simp))]
theorem cut_nat {ds : List D} {a b : Nat} : cutD ds (some (a : Int)) (some (b : Int)) = (ds.drop (min a ds.length)).take (min b ds.length - min a ds.length) := by
  unfold cutD
  rw [HT.sIx_nat, HT.sIx_nat]
theorem flt_map {α : Type} {f : α → D} {P : D → Bool} {F : D → D} : ∀ l : List α, ((l.map f).filter P).map F = (l.filter fun x => P (f x)).map fun x => F (f x)
  | [] => rfl
  | x :: l => by
    have h := flt_map (f := f) (P := P) (F := F) l
    rw [List.map_cons, List.filter_cons, List.filter_cons]
    cases P (f x) with
    | true => simp only [if_true, List.map_cons, h]
    | false => simpa using h
/-! ### behind a comprehension all is as it was -/
theorem wipeQ_w {q : Stt} : ∀ vs : List Nat, (wipeQ q vs).w = q.w
  | [] => rfl
  | v :: vs => wipeQ_w vs
theorem wipeQ_len {q : Stt} : ∀ vs : List Nat, (wipeQ q vs).sl.length = q.sl.length
  | [] => rfl
  | v :: vs => by
    show ((wipeQ q vs).sl.set v .un).length = _
    rw [List.length_set, wipeQ_len vs]
theorem wipeQ_get {q : Stt} {i : Nat} : ∀ {vs : List Nat}, i ∉ vs → (wipeQ q vs).sl[i]? = q.sl[i]?
  | [], _ => rfl
  | v :: vs, h => by
    show ((wipeQ q vs).sl.set v .un)[i]? = _
    rw [List.getElem?_set_ne (fun z => h (by simp [z])), wipeQ_get fun z => h (List.mem_cons_of_mem _ z)]
theorem back_id {q : Stt} {vs : List Nat} (h : ∀ i ∈ vs, ∀ s, q.sl[i]? = some s → keepS (some s) = s) : backQ q (wipeQ q vs) vs = q := by
  have e : ((wipeQ q vs).sl.mapIdx fun i s => if i ∈ vs then keepS q.sl[i]? else s) = q.sl := by
    apply List.ext_getElem?
    intro i
    rw [List.getElem?_mapIdx]
    by_cases hl : i < q.sl.length
    · obtain ⟨s, hs⟩ : ∃ s, q.sl[i]? = some s := ⟨_, List.getElem?_eq_getElem hl⟩
      obtain ⟨s1, hs1⟩ : ∃ s1, (wipeQ q vs).sl[i]? = some s1 := ⟨_, List.getElem?_eq_getElem (by rw [wipeQ_len]; exact hl)⟩
      rw [hs1, hs]
      show some (if i ∈ vs then keepS (some s) else s1) = some s
      by_cases m : i ∈ vs
      · rw [if_pos m, h i m s hs]
      · rw [if_neg m]
        rw [wipeQ_get m, hs] at hs1
        exact hs1.symm
    · have h1 : (wipeQ q vs).sl[i]? = none := List.getElem?_eq_none (by rw [wipeQ_len]; omega)
      have h2 : q.sl[i]? = none := List.getElem?_eq_none (by omega)
      rw [h1, h2]
      rfl
  unfold backQ
  rw [e, wipeQ_w]
end Den

namespace Den
open PySem PySem.Spec PyProof.Rows L2
open Evl (Ex)
/-! ### t[::-1], t a tuple -/
section
variable {prog : Program} {w : World} {A : Around} {E : Value → Shared → Prop} {s : Shared}
theorem back_places (n : Nat) : Builtin.Slice.slicePlaces ((n : Int) - 1) (-1) (-1) = n := by
  unfold Builtin.Slice.slicePlaces
  rw [if_neg (by omega)]
  by_cases h : ((n : Int) - 1) > -1
  · rw [if_pos h]
    have e : ((n : Int) - 1 - -1 - 1) / (- -1) + 1 = n := by
      have e1 : ((n : Int) - 1 - -1 - 1) = (n : Int) - 1 := by omega
      have e2 : (- -1 : Int) = 1 := rfl
      rw [e1, e2, Int.ediv_one]
      omega
    rw [e]
    omega
  · rw [if_neg h]
    omega
theorem applied_back {sl : Addr} {vl vu vs : Value} {n : Nat} {Q : Int × Int × Nat → Shared → Prop} (hs : s.heap.IsSliceOf sl vl vu vs) (pl : IsPart vl none) (pu : IsPart vu none) (ps : IsPart vs (some (-1)))
    (h : Q ((n : Int) - 1, -1, n) s) : wpAny (model prog w) A (Builtin.Slice.sliceApplied (.ref sl) (pure (n : Int))) Q E s := by
  obtain ⟨o, ho, hc, hd⟩ := id hs
  unfold Builtin.Slice.sliceApplied Builtin.Slice.sliceFields
  refine wpAny_bind (wpAny_bind (wpAny_field ho hd (x := vl) rfl (wpAny_bind (wpAny_field ho hd (x := vu) rfl (wpAny_bind (wpAny_field ho hd (x := vs) rfl (wpAny_pure ?_)))))))
  refine wpAny_bind (HT.slicePart_ ps ?_)
  show wpAny _ _ (if ((-1 : Int) == 0) = true then _ else _) _ _ s
  rw [if_neg (by decide)]
  refine wpAny_bind (HT.slicePart_ pl (wpAny_bind (HT.slicePart_ pu (wpAny_bind (wpAny_pure ?_)))))
  show wpAny _ _ (pure ((n : Int) - 1, (-1 : Int), Builtin.Slice.slicePlaces ((n : Int) - 1) (-1) (-1))) _ _ s
  rw [back_places]
  exact wpAny_pure h
theorem fm_congr {f g : Nat → Option Value} : ∀ l : List Nat, (∀ x ∈ l, f x = g x) → l.filterMap f = l.filterMap g
  | [], _ => rfl
  | x :: l, h => by rw [List.filterMap_cons, List.filterMap_cons, h x (by simp), fm_congr l fun y m => h y (by simp [m])]
theorem pick_back (xs : Array Value) : ((List.range xs.size).filterMap fun (m : Nat) => xs[((xs.size : Int) - 1 + (m : Int) * -1).toNat]?).toArray = xs.toList.reverse.toArray := by
  congr 1
  have e : ((List.range xs.size).filterMap fun (m : Nat) => xs[((xs.size : Int) - 1 + (m : Int) * -1).toNat]?) = (List.range xs.size).filterMap fun m => xs.toList.reverse[m]? := by
    refine fm_congr _ fun m hm => ?_
    have hm' := List.mem_range.mp hm
    have hi : ((xs.size : Int) - 1 + (m : Int) * -1).toNat = xs.size - 1 - m := by omega
    rw [hi, List.getElem?_reverse (by simpa using hm')]
    simp
  rw [e]
  have k : ∀ (ys : List Value), (List.range ys.length).filterMap (fun m => ys[m]?) = ys := by
    intro ys
    induction ys with
    | nil => rfl
    | cons y ys ih =>
      rw [List.length_cons, List.range_succ_eq_map, List.filterMap_cons]
      show y :: ((List.range ys.length).map Nat.succ).filterMap _ = _
      rw [List.filterMap_map]
      congr 1
  have k2 := k xs.toList.reverse
  rw [List.length_reverse, Array.length_toList] at k2
  exact k2
theorem getItem_back {t sl : Addr} {items : Array Value} {vl vu vs : Value} {Q : Value → Shared → Prop} (ht : IsTup s.heap t items) (hs : s.heap.IsSliceOf sl vl vu vs) (pl : IsPart vl none) (pu : IsPart vu none) (ps : IsPart vs (some (-1)))
    (h : Q (.ref s.heap.objs.size) { s with heap := s.heap.push { cls := .type "tuple", data := .seq items.toList.reverse.toArray } }) (hz : items.size ≤ sizeLine) : wpAny (model prog w) A (getItem (.ref t) (.ref sl)) Q E s := by
  have hsz : sizeOk (.seq items.toList.reverse.toArray) := by
    show items.toList.reverse.toArray.size ≤ sizeLine
    rw [List.size_toArray, List.length_reverse, Array.length_toList]
    exact hz
  obtain ⟨o, ho, hc, hd⟩ := id hs
  have hTs : s.TypeIs (.ref sl) "slice" := ⟨o, ho, hc⟩
  unfold getItem
  try with_reducible refine wpAny_holding ?_
  first | refine wpAny_bind (wpAny_pure ?_) | skip
  refine wpAny_bind (wpAny_sequenceKey ht.typeIs (by decide) ?_)
  refine wpAny_bind (wpAny_callSpecial?_slot (name := Str.ofString "__getitem__") ht.typeIs slot_tuple_getitem (wpAny_call_entry slot_tuple_getitem ht.typeIs entry_tuple_getitem ?_ (args_tuple_getitem _ _)))
  show wpAny _ _ (Builtin.Tuple.tupleItemsOf (.ref t) >>= _) _ _ s
  refine wpAny_bind (tupleItemsOf_ ht (wpAny_bind (wpAny_typeOf hTs ?_)))
  rw [if_pos (by decide)]
  refine wpAny_bind (applied_back (n := items.size) hs pl pu ps ?_)
  have hno : ¬ ((((items.size : Int) - 1) == 0 && (-1 : Int) == 1 && items.size == items.size) = true) := by
    intro q
    rw [Bool.and_eq_true, Bool.and_eq_true] at q
    exact absurd (eq_of_beq q.1.2) (by decide)
  show wpAny _ _ (if (((items.size : Int) - 1) == 0 && (-1 : Int) == 1 && items.size == items.size) = true then _ else _) _ _ s
  rw [if_neg hno, pick_back]
  first
    | exact wpAny_bind (m := Builtin.Tuple.tupleExact _) (wpAny_newObj_type (wpAny_pure ⟨_, rfl, wpAny_pure h⟩) hsz)
    | exact wpAny_bind (m := Builtin.Tuple.tupleExact _) (wpAny_newObj_type (wpAny_bind (wpAny_pure (wpAny_pure ⟨_, rfl, wpAny_pure h⟩))) hsz)
    | exact wpAny_bind (wpAny_bind (m := Builtin.Tuple.tupleExact _) (wpAny_newObj_type (wpAny_pure (wpAny_pure ⟨_, rfl, wpAny_pure h⟩)) hsz))
    | exact wpAny_bind (wpAny_bind (m := Builtin.Tuple.tupleExact _) (wpAny_newObj_type (wpAny_pure ⟨_, rfl, wpAny_pure h⟩) hsz))
end
def tRevT (K : PySem.W.Frag) (te : TE) : TE := fun σ H Q => te σ H fun x H1 => ∃ a xs, x = .ref a ∧ SqT K H1 a xs ∧ ∀ p, H1 p = none → Q (.ref p) (upd H1 p (.tup xs.reverse))
section
variable {X : Cx} {W : WX} {e : Expr} {te : TE} {f : ME XV} {k : Nat} {p1 p2 p3 pos : Pos}
theorem pe_revT (he : PE X e te) : PE X (.Subscript e (.Slice none none (some (.UnaryOp .USub (.Constant (.int 1) k p1) p2)) p3) pos) (tRevT X.K te) := by
  refine ⟨fun pins s σ H Q I h => ?_⟩
  refine Subscript_ (thn (he.run pins s σ H _ I h) fun v z1 ⟨x, Ha, Ia, ra, qa⟩ => ?_)
  obtain ⟨a, xs, ex, hx, q⟩ := qa
  subst ex
  cases ra
  have hst : PO X (some (.UnaryOp .USub (.Constant (.int 1) k p1) p2)) (tPart (tUn (rU fun i => .int (-i)) (tC (.int 1)))) := po_some (pe_un un_neg pe_int)
  refine wpAny_Slice (thn (po_none.run pins z1 σ Ha (fun o y => o = none ∧ y = Ha) Ia ⟨rfl, rfl⟩) fun vl z2 ⟨l, Hb, Ib, pl, el, eb⟩ => ?_)
  subst el eb
  refine thn (po_none.run pins z2 σ Hb (fun o y => o = none ∧ y = Hb) Ib ⟨rfl, rfl⟩) fun vu z3 ⟨u, Hc, Ic, pu, eu, ec⟩ => ?_
  subst eu ec
  refine thn (hst.run pins z3 σ Hc (fun o y => o = some (-1) ∧ y = Hc) Ic ⟨1, rfl, -1, rfl, rfl, rfl⟩) fun vs z4 ⟨o, Hd, Id, ps, eo, ed⟩ => ?_
  subst eo ed
  have Ie : L2.Inv X pins σ Hd { z4 with heap := z4.heap.push { cls := .type "slice", data := .fields #[vl, vu, vs] } } := Id.kept (t' := z4.toks) fun b ob q => Heap.get?_push_of_some _ q
  obtain ⟨its, r, ht, hz⟩ := Ie.tuple hx
  have hlen := r.length
  show wpAny (model X.prog X.w) X.A (subscriptTail e (.Slice none none (some (.UnaryOp .USub (.Constant (.int 1) k p1) p2)) p3) (.ref a) (.ref z4.heap.objs.size)) (EP X pins σ Q) X.xe { z4 with heap := z4.heap.push { cls := .type "slice", data := .fields #[vl, vu, vs] } }
  refine tail_any (ops := [.ref a, .ref z4.heap.objs.size]) ht.typeIs (slot_tuple_getitem.lookup) ?_ (by with_unfolding_all rfl)
  refine getItem_back ht (Heap.IsSliceOf.new _ vl vu vs) pl pu ps ?_ (by rw [List.size_toArray]; omega)
  refine ⟨.ref _, _, Ie.laid (t' := z4.toks) (o := .tup xs.reverse) (fun b ob q => Heap.get?_push_of_some _ q) (Nat.le_refl _) ?_, rfl, q _ (Ie.hok.fresh (Nat.le_refl _))⟩
  exact ⟨by rw [List.length_reverse]; exact hz, _, r.reverse, IsTup.new _ _⟩
theorem RepL.rev {K : PySem.W.Frag} {S : Hp} : ∀ {ds : List D} {vs : List V}, RepL K S ds vs → RepL K S ds.reverse vs.reverse
  | [], vs, h => by
    rw [len0 h]
    exact RepL.nil
  | d :: ds, vs, h => by
    rw [RepL] at h
    obtain ⟨v, r, rfl, h1, h2⟩ := h
    rw [List.reverse_cons, List.reverse_cons]
    exact (RepL.rev h2).append (RepL.one h1)
def eRevT (f : ME XV) : ME XV := bnd f fun x => lft (match x with | .d (.tup ds) => some (.d (.tup ds.reverse)) | _ => none)
theorem is_revT (h : IsE X W e te f) : IsE X W (.Subscript e (.Slice none none (some (.UnaryOp .USub (.Constant (.int 1) k p1) p2)) p3) pos) (tRevT X.K te) (eRevT f) := by
  refine ⟨pe_revT h.pe, Tok.bind (t2 := fun (x : V) (σ : L2.St) (H : Hp) (Q : VK) => ∃ (a : Addr) (xs : List V), x = V.ref a ∧ SqT X.K H a xs ∧ ∀ p, H p = none → Q (V.ref p) (upd H p (.tup xs.reverse))) h.ok fun x v F S H r σ q z E rx hz Q P => ?_⟩
  cases x with
  | h n => cases hz
  | d x =>
    cases x with
    | tup ds =>
      cases hz
      have rx' : Rep X.K S (.tup ds) v := rx
      rw [Rep] at rx'
      obtain ⟨a, vs, rfl, h1, h2⟩ := rx'
      refine ⟨a, vs, rfl, SqT.of (E.sub _ _ h1), fun p hp => ?_⟩
      obtain ⟨S2, ex, E2, rp⟩ := new_tup E hp (RepL.rev h2)
      exact P _ S2 _ r ex (Rle.refl _) E2 rp
    | _ => cases hz
end
end Den

namespace Den
open PySem PySem.Spec PyProof.Rows L2
open Evl (Ex)
/-! ### objects of the text's classes, held by the world -/
section
variable {K : PySem.W.Frag} {F S H : Hp} {r : List Addr} {σ : L2.St} {q : Stt} {p a : Addr} {o : HO} {wo wo' : WO} {n : Nat}
theorem Env.newO (E : Env K F S H r σ q) (hp : H p = none) (ho : ∀ ow : Ow, ow p = some (.inr q.w.length) → (r ++ [p])[q.w.length]? = some p → WOk K S (upd H p o) (r ++ [p]) ow q.w.length wo) (hm : Mut o := by intro _ h; cases h) :
    Env K F S (upd H p o) (r ++ [p]) σ { q with w := q.w ++ [wo] } ∧ Rle r (r ++ [p]) ∧ (r ++ [p])[q.w.length]? = some p := by
  have hF := E.newF hp
  have hS := E.newS hp
  have rle : Rle r (r ++ [p]) := fun n a h => by
    rw [List.getElem?_append_left (List.getElem?_eq_some_iff.mp h).1]
    exact h
  obtain ⟨ow, e⟩ := E
  have hat : (r ++ [p])[q.w.length]? = some p := by
    rw [← e.rlen]
    simp
  have ne : ∀ a x, ow a = some x → a ≠ p := fun a x k z => by
    obtain ⟨_, _, o, k3⟩ := e.ows a x k
    rw [z, hp] at k3
    cases k3
  have keep : ∀ a x, ow a = some x → (fun b => if b = p then some (Sum.inr q.w.length) else ow b) a = some x := fun a x k => by
    show (if a = p then _ else ow a) = _
    rw [if_neg (ne a x k)]
    exact k
  refine ⟨⟨fun b => if b = p then some (.inr q.w.length) else ow b, fun a o k => ?_, fun a o k => ?_, fun a x k => ?_, e.len, fun i s k => ?_, by simp [e.rlen], fun n o k => ?_, fun a us k => ?_⟩, rle, hat⟩
  · rw [upd_ne (ne_of_none k hS)]
    exact e.sub a o k
  · rw [upd_ne (ne_of_none k hF)]
    exact e.fr a o k
  · have k' : (if a = p then some (Sum.inr q.w.length) else ow a) = some x := k
    by_cases z : a = p
    · subst z
      exact ⟨hS, hF, _, upd_same⟩
    · rw [if_neg z] at k'
      obtain ⟨k1, k2, k3⟩ := e.ows a x k'
      exact ⟨k1, k2, by rw [upd_ne z]; exact k3⟩
  · exact (e.slot i s k).mono (Ex.refl _) rle fun a m => ⟨keep a _ m, upd_ne (ne a _ m)⟩
  · have k' : (q.w ++ [wo])[n]? = some o := k
    by_cases hn : n < q.w.length
    · rw [List.getElem?_append_left hn] at k'
      exact (e.wob n o k').mono (Ex.refl _) rle fun a m => ⟨keep a _ m, upd_ne (ne a _ m)⟩
    · rw [List.getElem?_append_right (by omega)] at k'
      have en : n = q.w.length := by
        have h1 := (List.getElem?_eq_some_iff.mp k').1
        simp at h1
        omega
      subst en
      rw [Nat.sub_self] at k'
      have eo : wo = o := by simpa using k'
      subst eo
      exact ho _ (by show (if p = p then _ else _) = _; rw [if_pos rfl]) hat
  · by_cases z : a = p
    · subst z
      rw [upd_same] at k
      exact absurd (Option.some.inj k) (hm us)
    · rw [upd_ne z] at k
      obtain ⟨n1, n2⟩ := e.nt a us k
      exact ⟨n1, by show (if a = p then _ else ow a) = _; rw [if_neg z]; exact n2⟩
theorem Env.setO (E : Env K F S H r σ q) (hw : q.w[n]? = some wo) (hown : ∀ ow, WOk K S H r ow n wo → ow a = some (.inr n)) (ho : ∀ ow : Ow, ow a = some (.inr n) → WOk K S (upd H a o) r ow n wo') (hm : Mut o := by intro _ h; cases h) :
    Env K F S (upd H a o) r σ { q with w := q.w.set n wo' } := by
  obtain ⟨ow, e⟩ := E
  have g2 := hown ow (e.wob n _ hw)
  obtain ⟨hS, hF, _⟩ := e.ows a _ g2
  have ne : ∀ b x, ow b = some x → x ≠ .inr n → b ≠ a := fun b x k z y => by
    rw [y, g2] at k
    exact z (Option.some.inj k).symm
  refine ⟨ow, fun b o k => ?_, fun b o k => ?_, fun b x k => ?_, e.len, fun i s k => ?_, by simp [e.rlen], fun m o k => ?_, fun b us k => ?_⟩
  · rw [upd_ne (ne_of_none k hS)]
    exact e.sub b o k
  · rw [upd_ne (ne_of_none k hF)]
    exact e.fr b o k
  · obtain ⟨k1, k2, k3⟩ := e.ows b x k
    refine ⟨k1, k2, ?_⟩
    by_cases z : b = a
    · subst z
      exact ⟨_, upd_same⟩
    · rw [upd_ne z]
      exact k3
  · exact (e.slot i s k).mono (Ex.refl _) (Rle.refl _) fun b m => ⟨m, upd_ne (ne b _ m (fun z => nomatch z))⟩
  · have k' : (q.w.set n wo')[m]? = some o := k
    by_cases hm : m = n
    · subst hm
      have hl := (List.getElem?_eq_some_iff.mp hw).1
      rw [List.getElem?_set_self hl] at k'
      cases k'
      exact ho ow g2
    · rw [List.getElem?_set_ne (Ne.symm hm)] at k'
      exact (e.wob m o k').mono (Ex.refl _) (Rle.refl _) fun b mm => ⟨mm, upd_ne (ne b _ mm (fun z => by cases z; exact hm rfl))⟩
  · by_cases z : b = a
    · subst z
      rw [upd_same] at k
      exact absurd (Option.some.inj k) (hm us)
    · rw [upd_ne z] at k
      exact e.nt b us k
end
/-! ### fields -/
def lkS : List Str → List XV → Str → Option XV
  | k :: ks, x :: xs, f => if f = k then some x else lkS ks xs f
  | _, _, _ => none
def putKS : List Str → Str → List Str
  | [], f => [f]
  | k :: ks, f => if k = f then k :: ks else k :: putKS ks f
def putXS : List Str → List XV → Str → XV → List XV
  | k :: ks, x :: xs, f, y => if k = f then y :: xs else x :: putXS ks xs f y
  | _, _, _, y => [y]
section
variable {K : PySem.W.Frag} {S : Hp} {r : List Addr}
theorem lk_rep {f : Str} {x : XV} : ∀ {ks : List Str} {xs : List XV} {vs : List V}, XRepL K S r xs vs → lkS ks xs f = some x → ∃ v, (ks.zip vs).lookup f = some v ∧ XRep K S r x v
  | [], xs, vs, _, h => by cases h
  | k :: ks, [], vs, _, h => by cases h
  | k :: ks, y :: xs, vs, ⟨v, t, e, h1, h2⟩, h => by
    subst e
    have h' : (if f = k then some y else lkS ks xs f) = some x := h
    show ∃ v', List.lookup f ((k, v) :: ks.zip t) = some v' ∧ _
    by_cases c : f = k
    · rw [if_pos c] at h'
      cases h'
      have hb : (f == k) = true := beq_iff_eq.mpr c
      exact ⟨v, by simp only [List.lookup, hb], h1⟩
    · rw [if_neg c] at h'
      have hb : (f == k) = false := beq_eq_false_iff_ne.mpr c
      obtain ⟨v', h3, h4⟩ := lk_rep h2 h'
      exact ⟨v', by simp only [List.lookup, hb]; exact h3, h4⟩
theorem lk_none {f : Str} : ∀ {ks : List Str} {vs : List V}, f ∉ ks → (ks.zip vs).lookup f = none
  | [], vs, _ => by simp
  | k :: ks, [], _ => by simp
  | k :: ks, v :: vs, h => by
    have hb : (f == k) = false := beq_eq_false_iff_ne.mpr fun e => h (by simp [e])
    show List.lookup f ((k, v) :: ks.zip vs) = none
    simp only [List.lookup, hb]
    exact lk_none fun e => h (by simp [e])
theorem putO_rep {f : Str} {y : XV} {u : V} : ∀ {ks : List Str} {xs : List XV} {vs : List V}, ks.length = xs.length → XRepL K S r xs vs → XRep K S r y u → ∃ vs', putF f u (ks.zip vs) = (putKS ks f).zip vs' ∧ (putKS ks f).length = (putXS ks xs f y).length ∧ XRepL K S r (putXS ks xs f y) vs'
  | [], [], vs, _, h, hy => by
    have e : vs = [] := h
    subst e
    exact ⟨[u], rfl, rfl, u, [], rfl, hy, rfl⟩
  | k :: ks, x :: xs, vs, hl, ⟨v, t, e, h1, h2⟩, hy => by
    subst e
    have hl' : ks.length = xs.length := by simpa using hl
    show ∃ vs', (if k = f then (k, u) :: ks.zip t else (k, v) :: putF f u (ks.zip t)) = (if k = f then k :: ks else k :: putKS ks f).zip vs' ∧ (if k = f then k :: ks else k :: putKS ks f).length = (if k = f then y :: xs else x :: putXS ks xs f y).length ∧ XRepL K S r (if k = f then y :: xs else x :: putXS ks xs f y) vs'
    by_cases c : k = f
    · simp only [if_pos c]
      exact ⟨u :: t, rfl, by simp [hl'], u, t, rfl, hy, h2⟩
    · simp only [if_neg c]
      obtain ⟨vs', h3, h4, h5⟩ := putO_rep (f := f) hl' h2 hy
      exact ⟨v :: vs', by rw [h3]; rfl, by simp [h4], v, vs', rfl, h1, h5⟩
end
def eFld (C : Addr) (f : Str) (fo : ME XV) : ME XV := bnd fo fun x q => match x with
  | .h n => match q.w[n]? with
    | some (.ins C' ks xs) => if C' = C then (lkS ks xs f).map fun v => (.ok v, q) else none
    | _ => none
  | _ => none
def fldStep (C : Addr) (f : Str) (v o : XV) (q : Stt) : Option Fl := match o with
  | .h n => match q.w[n]? with
    | some (.ins C' ks xs) => if C' = C ∧ ks.length < 1000 then some (.nx { q with w := q.w.set n (.ins C (putKS ks f) (putXS ks xs f v)) }) else none
    | _ => none
  | _ => none
def sFldW (C : Addr) (f : Str) (fo fv : ME XV) : MS := sOf fv fun v => sOf fo fun o => fldStep C f v o
section
variable {X : Cx} {W : WX} {e e1 e2 o value : Expr} {es : List Expr} {t t1 t2 ta tv : TE} {f f1 f2 fo fv : ME XV} {tg : TA} {fa : ME (List XV)} {pos pos' p apos : Pos} {C : Addr} {fld m : Str}
theorem is_fld (he : IsE X W e t fo) (c : Cls X.K C) (n : NoAttr X.K C fld) (hb : attributeBase e fld X.env (eval e X.env) = eval e X.env := by rfl) : IsE X W (.Attribute e fld pos) (tFld X.K t fld) (eFld C fld fo) := by
  refine ⟨pe_fld he.pe hb, ?_⟩
  refine Tok.bind (t2 := fun x σ H Q => ∃ a C dx fs v, x = V.ref a ∧ H a = some (.ins C dx fs) ∧ Cls X.K C ∧ NoAttr X.K C fld ∧ fs.lookup fld = some v ∧ Q v H) he.ok fun x v F S H r σ q z E rx hz Q P => ?_
  cases x with
  | d _ => cases hz
  | h j =>
    have hz' : (match q.w[j]? with
      | some (.ins C' ks xs) => if C' = C then (lkS ks xs fld).map fun v => ((.ok v, q) : Rs XV) else none
      | _ => none) = some z := hz
    cases ew : q.w[j]? with
    | none => rw [ew] at hz'; cases hz'
    | some wo =>
      rw [ew] at hz'
      cases wo with
      | dead => cases hz'
      | lst _ => cases hz'
      | ins C' ks xs =>
        have hz2 : (if C' = C then (lkS ks xs fld).map fun v => ((.ok v, q) : Rs XV) else none) = some z := hz'
        by_cases hC : C' = C
        · subst hC
          rw [if_pos rfl] at hz2
          cases el : lkS ks xs fld with
          | none => rw [el] at hz2; cases hz2
          | some y =>
            rw [el] at hz2
            cases hz2
            obtain ⟨ow, e0⟩ := id E
            obtain ⟨a, dx, vs, g1, g2, g3, g4, g5⟩ := e0.wob j _ ew
            obtain ⟨a', k1, k2⟩ := rx
            rw [g1] at k1
            cases k1
            obtain ⟨u, h1, h2⟩ := lk_rep g5 el
            exact ⟨a, _, dx, _, u, k2, g3, c, n, h1, P u S H r (Ex.refl _) (Rle.refl _) E h2⟩
        · rw [if_neg hC] at hz2
          cases hz2
theorem is_setFld (ho : IsE X W o ta fo) (hv : IsE X W value tv fv) (c : Cls X.K C) (n : NoAttr X.K C fld) (hs : swapsWith value (some (.Attribute o fld pos')) pos.line X.env = pure false := by rfl) :
    IsS X W (.Assign [.Attribute o fld pos'] value pos) (sFld X.K ta tv fld) (sFldW C fld fo fv) := by
  refine ⟨ps_fld ho.pe hv.pe hs, ?_⟩
  intro F S H r σ q z E hz d P
  refine sof_at hv.ok E hz P fun xv v S1 H1 r1 q1 ex1 k1 E1 rv hz P => ?_
  refine sof_at ho.ok E1 hz P fun xo ov S2 H2 r2 q2 ex2 k2 E2 ro hz P => ?_
  cases xo with
  | d _ => cases hz
  | h j =>
    have hz' : (match q2.w[j]? with
      | some (.ins C' ks xs) => if C' = C ∧ ks.length < 1000 then some (Fl.nx { q2 with w := q2.w.set j (.ins C (putKS ks fld) (putXS ks xs fld xv)) }) else none
      | _ => none) = some z := hz
    cases ew : q2.w[j]? with
    | none => rw [ew] at hz'; cases hz'
    | some wo =>
      rw [ew] at hz'
      cases wo with
      | dead => cases hz'
      | lst _ => cases hz'
      | ins C' ks xs =>
        have hz2 : (if C' = C ∧ ks.length < 1000 then some (Fl.nx { q2 with w := q2.w.set j (.ins C (putKS ks fld) (putXS ks xs fld xv)) }) else none) = some z := hz'
        by_cases hC : C' = C ∧ ks.length < 1000
        · rw [if_pos hC] at hz2
          obtain ⟨rfl, hlen⟩ := hC
          cases hz2
          obtain ⟨ow, e0⟩ := id E2
          obtain ⟨a, dx, vs, g1, g2, g3, g4, g5⟩ := e0.wob j _ ew
          obtain ⟨a', k1', k2'⟩ := ro
          rw [g1] at k1'
          cases k1'
          obtain ⟨vs', h1, h2, h3⟩ := putO_rep (f := fld) g4 g5 (XRep.mono ex2 k2 rv)
          have hl : (ks.zip vs).length < 1000 := by
            rw [List.length_zip]
            omega
          refine ⟨a, _, dx, _, k2', g3, c, n, hl, ?_⟩
          rw [h1]
          exact P σ S2 _ r2 (Ex.refl _) (Rle.refl _) (E2.setO ew (fun ow hk => by
            obtain ⟨a2, _, _, m1, m2, _⟩ := hk
            rw [g1] at m1
            cases m1
            exact m2) fun ow how => ⟨a, dx, vs', g1, how, upd_same, h2, h3⟩)
        · rw [if_neg hC] at hz2
          cases hz2
end
end Den

namespace Den
open PySem PySem.Spec PyProof.Rows L2
open Evl (Ex)
/-! ### objects made, methods called -/
/-- a class of the text with an __init__ of its own that raises nothing -/
structure InitOk (P : Program) (w : World) (K : PySem.W.Frag) (mg : Str → Option Value) (base : Heap) (name : Str) (k n : Nat) (C : Addr) (G : Fn) : Prop where
  ex : ∃ (f : Addr) (fd : FuncData) (ps : List Str), mg name = some (.ref C) ∧ Mk K C f ∧ Binds K fd ps [] ∧ FnOk P w K mg base CX0 k f fd ps (spF K n G)
/-- a method that raises nothing -/
structure MetOk (P : Program) (w : World) (K : PySem.W.Frag) (mg : Str → Option Value) (base : Heap) (m : Str) (k n : Nat) (C : Addr) (G : Fn) : Prop where
  ex : ∃ (f : Addr) (fd : FuncData) (ps : List Str), Cls K C ∧ Meth K C m f ∧ Binds K fd ps [] ∧ FnOk P w K mg base CX0 k f fd ps (spF K n G)
def newStep (n : Nat) (C : Addr) (G : Fn) (xs : List XV) (q : Stt) : Option (Rs XV) := if xs.length + 1 = n then (match G (.h q.w.length :: xs) (q.w ++ [.ins C [] []]) with
  | some (.ok (.d .non), w') => some (.ok (.h q.w.length), { q with w := w' })
  | _ => none) else none
def eNewI (n : Nat) (C : Addr) (G : Fn) (fa : ME (List XV)) : ME XV := bnd fa fun xs q => newStep n C G xs q
def isIns (C : Addr) (m : Str) (x : XV) (q : Stt) : Bool := match x with
  | .h j => match q.w[j]? with
    | some (.ins C' ks _) => decide (C' = C ∧ m ∉ ks)
    | _ => false
  | _ => false
def metStep (n : Nat) (G : Fn) (x : XV) (xs : List XV) (q : Stt) : Option (Rs XV) := if xs.length + 1 = n then (match G (x :: xs) q.w with
  | some (.ok y, w') => some (.ok y, { q with w := w' })
  | _ => none) else none
def eMeth (n : Nat) (C : Addr) (m : Str) (G : Fn) (fo : ME XV) (fa : ME (List XV)) : ME XV := bnd fo fun x q => if isIns C m x q then bnd fa (fun xs q => metStep n G x xs q) q else none
section
variable {X : Cx} {W : WX} {e e1 e2 o : Expr} {es : List Expr} {ta tv : TE} {fo : ME XV} {t : TA} {fa : ME (List XV)} {pos p apos : Pos} {C : Addr} {name m : Str} {k n : Nat} {G : Fn}
theorem sp_new {F S H : Hp} {r : List Addr} {σ : L2.St} {q : Stt} {z : Rs XV} {xs : List XV} {vs : List V} {Q : VK} (E : Env X.K F S H r σ q) (rx : XRepL X.K S r xs vs) (hz : newStep n C G xs q = some z) (P : Post (RX X.K) X.K W F S r σ z Q) :
    ∀ x dx, H x = none → H dx = none → dx ≠ x → spF X.K n G (.ref x :: (vs ++ [])) (upd (upd H dx (.own x)) x (.ins C dx [])) (fun v H2 => v = .non ∧ Q (.ref x) H2) E0 := by
  intro x dx hx hdx ne
  unfold newStep at hz
  by_cases hn : xs.length + 1 = n
  · rw [if_pos hn] at hz
    obtain ⟨E2, ex⟩ := (E.add hdx (.own x)).settle (E.newF hdx)
    have hx' : upd H dx (.own x) x = none := by
      rw [upd_ne (Ne.symm ne)]
      exact hx
    obtain ⟨E3, k3, hat⟩ := E2.newO (o := .ins C dx []) (wo := .ins C [] []) hx' fun ow how ht => ⟨x, dx, [], ht, how, upd_same, rfl, rfl⟩
    refine ⟨by rw [List.append_nil, List.length_cons, ← rx.length]; exact hn, ?_⟩
    obtain ⟨F', _, E4, back⟩ := E3.hide
    cases eg : G (.h q.w.length :: xs) (q.w ++ [.ins C [] []]) with
    | none => rw [eg] at hz; cases hz
    | some y =>
      obtain ⟨y, w'⟩ := y
      rw [eg] at hz
      cases y with
      | error c => cases hz
      | ok y =>
        cases y with
        | h _ => cases hz
        | d y =>
          cases y with
          | non =>
            cases hz
            refine ⟨F', _, _, _, _, _, E4, ?_, eg, ?_⟩
            · rw [List.append_nil]
              exact ⟨_, _, rfl, ⟨x, hat, rfl⟩, rx.mono ex k3⟩
            · intro v S1 H1 r1 ex1 k1 E1 rp
              have ev : v = .non := by
                have rp' : Rep X.K S1 .non v := rp
                rw [Rep] at rp'
                exact rp'
              exact ⟨ev, P (.ref x) S1 H1 r1 (ex.trans ex1) (k3.trans k1) (back S1 H1 r1 w' ex1 k1 E1) ⟨x, k1 _ _ hat, rfl⟩⟩
          | _ => cases hz
  · rw [if_neg hn] at hz
    cases hz
theorem is_newI (d : InitOk X.prog X.w X.K X.mg X.base name k n C G) (hr : Room (k + 1) X.A) (ha : IsA X W (e :: es) t fa) (hg : Gl X name := by rfl) (hdb : (name == ("__debug__" : Str)) = false := by decide)
    (he : starEach (e :: es) X.env = (false, eval e X.env) :: starEach es X.env := by rfl) (hpl : (backTo pos (starEach es X.env)).any (·.1) = false := by rfl) : IsE X W (.Call (.Name name p) (e :: es) [] pos) (tMake C (spF X.K n G) [] E0 t) (eNewI n C G fa) := by
  obtain ⟨f, fd, ps, hm, M, hb, F⟩ := d.ex
  refine ⟨pe_make (CX := CX0) M F hr hg hm hb .nil pass0 ha.pa hdb he hpl, ?_⟩
  refine Tok.bind (t2 := fun vs σ H Q => ∀ x dx, H x = none → H dx = none → dx ≠ x → spF X.K n G (V.ref x :: (vs ++ [])) (upd (upd H dx (.own x)) x (.ins C dx [])) (fun v H2 => v = .non ∧ Q (V.ref x) H2) E0) ha.ok fun x v F S H r σ q z E rx hz Q P => ?_
  exact sp_new E rx hz P
theorem sp_met {F S H : Hp} {r : List Addr} {σ : L2.St} {q : Stt} {z : Rs XV} {x : XV} {v : V} {xs : List XV} {vs : List V} {Q : VK} (E : Env X.K F S H r σ q) (rv : XRep X.K S r x v) (rx : XRepL X.K S r xs vs) (hz : metStep n G x xs q = some z) (P : Post (RX X.K) X.K W F S r σ z Q) :
    spF X.K n G (v :: (vs ++ [])) H Q E0 := by
  unfold metStep at hz
  by_cases hn : xs.length + 1 = n
  · rw [if_pos hn] at hz
    refine ⟨by rw [List.append_nil, List.length_cons, ← rx.length]; exact hn, ?_⟩
    obtain ⟨F', _, E4, back⟩ := E.hide
    cases eg : G (x :: xs) q.w with
    | none => rw [eg] at hz; cases hz
    | some y =>
      obtain ⟨y, w'⟩ := y
      rw [eg] at hz
      cases y with
      | error c => cases hz
      | ok y =>
        cases hz
        refine ⟨F', _, _, _, _, _, E4, ?_, eg, ?_⟩
        · rw [List.append_nil]
          exact ⟨_, _, rfl, rv, rx⟩
        · intro v S1 H1 r1 ex1 k1 E1 rp
          exact P v S1 H1 r1 ex1 k1 (back S1 H1 r1 w' ex1 k1 E1) rp
  · rw [if_neg hn] at hz
    cases hz
theorem ins_of {F S H : Hp} {r : List Addr} {σ : L2.St} {q : Stt} {x : XV} {v : V} (E : Env X.K F S H r σ q) (rx : XRep X.K S r x v) (h : isIns C m x q = true) : ∃ a dx fs, v = .ref a ∧ H a = some (.ins C dx fs) ∧ fs.lookup m = none := by
  cases x with
  | d _ => cases h
  | h j =>
    have h' : (match q.w[j]? with
      | some (.ins C' ks _) => decide (C' = C ∧ m ∉ ks)
      | _ => false) = true := h
    cases ew : q.w[j]? with
    | none => rw [ew] at h'; cases h'
    | some wo =>
      rw [ew] at h'
      cases wo with
      | dead => cases h'
      | lst _ => cases h'
      | ins C' ks xs =>
        obtain ⟨rfl, hm⟩ := of_decide_eq_true (show decide (C' = C ∧ m ∉ ks) = true from h')
        obtain ⟨ow, e0⟩ := id E
        obtain ⟨a, dx, vs, g1, g2, g3, g4, g5⟩ := e0.wob j _ ew
        obtain ⟨a', k1, k2⟩ := rx
        rw [g1] at k1
        cases k1
        exact ⟨a, dx, _, k2, g3, lk_none hm⟩
theorem tok_meth (ho : Tok (RX X.K) X.K W ta fo) (ha : Tok (RXL X.K) X.K W t fa) : Tok (RX X.K) X.K W (tMeth C m (spF X.K n G) [] E0 ta t) (eMeth n C m G fo fa) := by
  refine Tok.bind (t2 := fun x σ H Q => ∃ a dx fs, x = V.ref a ∧ H a = some (.ins C dx fs) ∧ fs.lookup m = none ∧ t σ H fun vs H2 => spF X.K n G (x :: (vs ++ [])) H2 Q E0) ho fun x v F S H r σ q z E rx hz Q P => ?_
  have hz' : (if isIns C m x q = true then bnd fa (fun xs q => metStep n G x xs q) q else none) = some z := hz
  by_cases hi : isIns C m x q = true
  · rw [if_pos hi] at hz'
    obtain ⟨a, dx, fs, e1, e2, e3⟩ := ins_of E rx hi
    refine ⟨a, dx, fs, e1, e2, e3, ?_⟩
    rw [bnd_eq] at hz'
    cases ef : fa q with
    | none => rw [ef] at hz'; cases hz'
    | some z1 =>
      obtain ⟨y, q1⟩ := z1
      rw [ef] at hz'
      cases y with
      | error c =>
        cases hz'
        exact ha F S H r σ q _ E ef _ P
      | ok xs => exact ha F S H r σ q _ E ef _ fun ws S1 H1 r1 ex1 k1 E1 rws => sp_met E1 (XRep.mono ex1 k1 rx) rws hz' (P.mono ex1 k1)
  · rw [if_neg hi] at hz'
    cases hz'
theorem is_meth {pl : Sem Bool} (d : MetOk X.prog X.w X.K X.mg X.base m k n C G) (hr : Room k X.A) (ho : IsE X W o ta fo) (ha : IsA X W (e :: es) t fa)
    (hst : starEach (e :: es) X.env = (false, eval e X.env) :: starEach es X.env := by rfl) (hpl : (backTo pos (starEach es X.env)).any (·.1) = false := by rfl)
    (ht : eval (.Call (.Attribute o m apos) (e :: es) [] pos) X.env = (do
      let ov ← eval o X.env
      standAt apos.atName
      let (f, first) ← holding [ov] (getMethod ov m pl)
      callWith pos f first (backTo pos (starEach (e :: es) X.env)) (backToKw pos (keywordEach [] X.env))) := by rfl) :
    IsE X W (.Call (.Attribute o m apos) (e :: es) [] pos) (tMeth C m (spF X.K n G) [] E0 ta t) (eMeth n C m G fo fa) := by
  obtain ⟨f, fd, ps, c, hm, hb, F⟩ := d.ex
  exact ⟨pe_meth (CX := CX0) ho.pe c hm F hr hb .nil pass0 ha.pa hst hpl ht, tok_meth ho.ok ha.ok⟩
theorem is_meth0 {pl : Sem Bool} (d : MetOk X.prog X.w X.K X.mg X.base m k n C G) (hr : Room k X.A) (ho : IsE X W o ta fo)
    (ht : eval (.Call (.Attribute o m apos) [] [] pos) X.env = (do
      let ov ← eval o X.env
      standAt apos.atName
      let (f, first) ← holding [ov] (getMethod ov m pl)
      callWith pos f first (backTo pos (starEach [] X.env)) (backToKw pos (keywordEach [] X.env))) := by rfl) :
    IsE X W (.Call (.Attribute o m apos) [] [] pos) (tMeth C m (spF X.K n G) [] E0 ta tNil) (eMeth n C m G fo aNil) := by
  obtain ⟨f, fd, ps, c, hm, hb, F⟩ := d.ex
  exact ⟨pe_meth0 (CX := CX0) ho.pe c hm F hr hb .nil pass0 ht, tok_meth ho.ok (is_anil (X := X) (W := W)).ok⟩
end
/-! ### the defs of a class -/
section
variable {P : Program} {w : World} {K : PySem.W.Frag} {mg : Str → Option Value} {base : Heap} {x m qual : Str} {st : Stmt} {fA C : Addr} {fd : FuncData} {N ps : List Str} {k n : Nat} {g : MS}
theorem met_ok (c : Cls K C) (hm : Meth K C m fA) (F : Fun K x qual st fA fd) (b : Binds K fd ps []) (S : FnScope N ps (defScope st)) (hn : ps.length = n)
    (hb : ∀ (cdv : Value) (A : Around) (outer : List PySem.Env) (s : Shared) (H : Hp) (E : XK), Room k (A.deeper (envOfC qual (defScope st) s.heap.objs.size fA cdv)) → ∃ t, IsB (cxOf CX0 P w K mg base N qual (defScope st) fA cdv A outer s H E).nox W0 (defBody st) t g) :
    MetOk P w K mg base m (k + 1) n C (fnG N.length g) := ⟨⟨fA, fd, ps, c, hm, b, by rw [← hn]; exact fn_ok F S hb⟩⟩
theorem init_ok {cn : Str} (hC : mg cn = some (.ref C)) (M : Mk K C fA) (F : Fun K x qual st fA fd) (b : Binds K fd ps []) (S : FnScope N ps (defScope st)) (hn : ps.length = n)
    (hb : ∀ (cdv : Value) (A : Around) (outer : List PySem.Env) (s : Shared) (H : Hp) (E : XK), Room k (A.deeper (envOfC qual (defScope st) s.heap.objs.size fA cdv)) → ∃ t, IsB (cxOf CX0 P w K mg base N qual (defScope st) fA cdv A outer s H E).nox W0 (defBody st) t g) :
    InitOk P w K mg base cn (k + 1) n C (fnG N.length g) := ⟨⟨fA, fd, ps, hC, M, b, by rw [← hn]; exact fn_ok F S hb⟩⟩
end
end Den

namespace Den
open PySem PySem.Spec PyProof.Rows L2
open Evl (Ex)
/-! ### fresh lists handed out by defs, and taken over -/
section
variable {K : PySem.W.Frag} {F S H : Hp} {r : List Addr} {σ : L2.St} {q : Stt} {p a : Addr} {n : Nat} {xs : List XV} {vs : List V}
theorem Env.outW (E : Env K F S H r σ q) (hw : q.w[n]? = some (.lst xs)) : ∃ a vs, r[n]? = some a ∧ H a = some (.lst vs) ∧ F a = none ∧ XRepL K S r xs vs ∧ Env K (upd F a (.lst vs)) S H r σ { q with w := q.w.set n .dead } := by
  obtain ⟨ow, e⟩ := E
  obtain ⟨a, vs, g1, g2, g3, g4⟩ := e.wob n _ hw
  obtain ⟨k1, k2, _⟩ := e.ows a _ g2
  refine ⟨a, vs, g1, g3, k2, g4, fun b => if b = a then none else ow b, e.sub, fun b u k => ?_, fun b x k => ?_, e.len, fun i s k => ?_, by simp [e.rlen], fun m u k => ?_, fun b us k => ?_⟩
  · by_cases z : b = a
    · subst z
      rw [upd_same] at k
      cases k
      exact ⟨g3, k1⟩
    · rw [upd_ne z] at k
      exact e.fr b u k
  · have k' : (if b = a then none else ow b) = some x := k
    by_cases z : b = a
    · rw [if_pos z] at k'
      cases k'
    · rw [if_neg z] at k'
      obtain ⟨m1, m2, m3⟩ := e.ows b x k'
      exact ⟨m1, by rw [upd_ne z]; exact m2, m3⟩
  · refine (e.slot i s k).mono (Ex.refl _) (Rle.refl _) fun b m => ⟨?_, rfl⟩
    show (if b = a then none else ow b) = _
    rw [if_neg ?_]
    · exact m
    · rintro rfl
      rw [g2] at m
      cases m
  · have k' : (q.w.set n .dead)[m]? = some u := k
    by_cases hm : m = n
    · subst hm
      have hl := (List.getElem?_eq_some_iff.mp hw).1
      rw [List.getElem?_set_self hl] at k'
      cases k'
      trivial
    · rw [List.getElem?_set_ne (Ne.symm hm)] at k'
      refine (e.wob m u k').mono (Ex.refl _) (Rle.refl _) fun b mm => ⟨?_, rfl⟩
      show (if b = a then none else ow b) = _
      rw [if_neg ?_]
      · exact mm
      · rintro rfl
        rw [g2] at mm
        cases mm
        exact hm rfl
  · obtain ⟨n1, n2⟩ := e.nt b us k
    have z : b ≠ a := fun z => by
      rw [z, g2] at n2
      cases n2
    exact ⟨by rw [upd_ne z]; exact n1, by show (if b = a then none else ow b) = none; rw [if_neg z]; exact n2⟩
theorem Env.inW (E : Env K (upd F p (.lst vs)) S H r σ q) (hF : F p = none) (rx : XRepL K S r xs vs) : Env K F S H (r ++ [p]) σ { q with w := q.w ++ [.lst xs] } ∧ Rle r (r ++ [p]) ∧ (r ++ [p])[q.w.length]? = some p := by
  have rle : Rle r (r ++ [p]) := fun n a h => by
    rw [List.getElem?_append_left (List.getElem?_eq_some_iff.mp h).1]
    exact h
  obtain ⟨ow, e⟩ := E
  obtain ⟨h1, h2⟩ := e.fr p _ upd_same
  have hat : (r ++ [p])[q.w.length]? = some p := by
    rw [← e.rlen]
    simp
  have ne : ∀ a x, ow a = some x → a ≠ p := fun a x k z => by
    obtain ⟨_, k2, _⟩ := e.ows a x k
    rw [z, upd_same] at k2
    cases k2
  have keep : ∀ a x, ow a = some x → (fun b => if b = p then some (Sum.inr q.w.length) else ow b) a = some x := fun a x k => by
    show (if a = p then _ else ow a) = _
    rw [if_neg (ne a x k)]
    exact k
  refine ⟨⟨fun b => if b = p then some (.inr q.w.length) else ow b, e.sub, fun a o k => ?_, fun a x k => ?_, e.len, fun i s k => ?_, by simp [e.rlen], fun n o k => ?_, fun a us k => ?_⟩, rle, hat⟩
  · have z : a ≠ p := ne_of_none k hF
    refine e.fr a o ?_
    rw [upd_ne z]
    exact k
  · have k' : (if a = p then some (Sum.inr q.w.length) else ow a) = some x := k
    by_cases z : a = p
    · subst z
      exact ⟨h2, hF, _, h1⟩
    · rw [if_neg z] at k'
      obtain ⟨k1, k2, k3⟩ := e.ows a x k'
      rw [upd_ne z] at k2
      exact ⟨k1, k2, k3⟩
  · exact (e.slot i s k).mono (Ex.refl _) rle fun a m => ⟨keep a _ m, rfl⟩
  · have k' : (q.w ++ [.lst xs])[n]? = some o := k
    by_cases hn : n < q.w.length
    · rw [List.getElem?_append_left hn] at k'
      exact (e.wob n o k').mono (Ex.refl _) rle fun a m => ⟨keep a _ m, rfl⟩
    · rw [List.getElem?_append_right (by omega)] at k'
      have en : n = q.w.length := by
        have h1 := (List.getElem?_eq_some_iff.mp k').1
        simp at h1
        omega
      subst en
      rw [Nat.sub_self] at k'
      have eo : WO.lst xs = o := by simpa using k'
      subst eo
      exact ⟨p, vs, hat, by show (if p = p then _ else _) = _; rw [if_pos rfl], h1, rx.mono (Ex.refl _) rle⟩
  · obtain ⟨n1, n2⟩ := e.nt a us k
    by_cases z : a = p
    · subst z
      rw [upd_same] at n1
      cases n1
    · rw [upd_ne z] at n1
      exact ⟨n1, by show (if a = p then _ else ow a) = _; rw [if_neg z]; exact n2⟩
theorem xrep_d : ∀ {ds : List D} {vs : List V}, RepL K S ds vs → XRepL K S r (ds.map .d) vs
  | [], vs, h => by
    rw [RepL] at h
    exact h
  | d :: ds, vs, h => by
    rw [RepL] at h
    obtain ⟨v, t, e, h1, h2⟩ := h
    exact ⟨v, t, e, h1, xrep_d h2⟩
end
def giveW (ds : List D) (q : Stt) : Rs XV := (.ok (.h q.w.length), { q with w := q.w ++ [.lst (ds.map .d)] })
/-- a fresh list, held by the world from then on -/
def eLW (fl : ME (List D)) : ME XV := bnd fl fun ds q => some (giveW ds q)
/-- a name's own list, handed to the world -/
def eVarW (i : Nat) : ME XV := fun q => match q.sl[i]? with
  | some (.ol ds) => some (giveW ds { q with sl := q.sl.set i .un })
  | _ => none
/-- a list of the world, taken over as a fresh one -/
def lTake (f : ME XV) : ME (List D) := bnd f fun x q => match x with
  | .h n => match q.w[n]? with
    | some (.lst xs) => (allD xs).map fun ds => (.ok ds, { q with w := q.w.set n .dead })
    | _ => none
  | _ => none
section
variable {X : Cx} {W : WX} {e : Expr} {t : TE} {f : ME XV} {fl : ME (List D)} {K : PySem.W.Frag} {pos : Pos}
theorem tok_lw (h : TokL K W t fl) : Tok (RX K) K W t (eLW fl) := by
  intro F S H r σ q z E hz Q P
  unfold eLW at hz
  rw [bnd_eq] at hz
  cases e : fl q with
  | none => rw [e] at hz; cases hz
  | some z1 =>
    obtain ⟨x, q1⟩ := z1
    rw [e] at hz
    cases x with
    | error c =>
      cases hz
      exact h F S H r σ q _ E e _ P
    | ok ds =>
      cases hz
      refine h F S H r σ q _ E e _ fun p vs S1 H1 r1 e1 k1 hp E1 rp => ?_
      obtain ⟨E2, k2, hat⟩ := E1.inW hp (xrep_d rp)
      exact P (.ref p) S1 H1 _ e1 (k1.trans k2) E2 ⟨p, hat, rfl⟩
theorem is_lw (h : IsL X W e t fl) : IsE X W e t (eLW fl) := ⟨h.pe, tok_lw h.ok⟩
theorem tok_varW (i : Nat) : Tok (RX K) K W (tVar i) (eVarW i) := by
  intro F S H r σ q z E hz Q P
  unfold eVarW at hz
  cases es : q.sl[i]? with
  | none => rw [es] at hz; cases hz
  | some s =>
    rw [es] at hz
    cases s with
    | ol ds =>
      cases hz
      obtain ⟨a, vs, ha, hH, hF, rp, hi, E1⟩ := E.outL es
      obtain ⟨E2, k2, hat⟩ := E1.inW hF (xrep_d rp)
      exact ⟨.ref a, ha, P (.ref a) S H _ (Ex.refl _) k2 E2 ⟨a, hat, rfl⟩⟩
    | _ => cases hz
theorem is_vW (i : Nat) {x : Str} (hN : X.N[i]? = some x := by rfl) (hv : Vis X.env.scope x := by first | exact Or.inl rfl | exact Or.inr (Or.inl rfl) | exact Or.inr (Or.inr rfl)) (hd : (x == ("__debug__" : Str)) = false := by decide)
    (hcd : (x == ("__classdict__" : Str)) = false := by decide) : IsE X W (.Name x pos) (tVar i) (eVarW i) := ⟨pe_var hN hv hd hcd, tok_varW i⟩
theorem tokL_take (h : Tok (RX K) K W t f) : TokL K W t (lTake f) := by
  intro F S H r σ q z E hz Q P
  unfold lTake at hz
  rw [bnd_eq] at hz
  cases e : f q with
  | none => rw [e] at hz; cases hz
  | some z1 =>
    obtain ⟨x, q1⟩ := z1
    rw [e] at hz
    cases x with
    | error c =>
      cases hz
      exact h F S H r σ q _ E e _ P
    | ok x =>
      refine h F S H r σ q _ E e _ fun v S1 H1 r1 e1 k1 E1 rp => ?_
      cases x with
      | d _ => cases hz
      | h n =>
        have hz' : (match q1.w[n]? with
          | some (.lst xs) => (allD xs).map fun ds => ((.ok ds, { q1 with w := q1.w.set n .dead }) : Rs (List D))
          | _ => none) = some z := hz
        cases ew : q1.w[n]? with
        | none => rw [ew] at hz'; cases hz'
        | some wo =>
          rw [ew] at hz'
          cases wo with
          | dead => cases hz'
          | ins _ _ _ => cases hz'
          | lst xs =>
            have hz2 : ((allD xs).map fun ds => ((.ok ds, { q1 with w := q1.w.set n .dead }) : Rs (List D))) = some z := hz'
            cases ea : allD xs with
            | none => rw [ea] at hz2; cases hz2
            | some ds =>
              rw [ea] at hz2
              cases hz2
              obtain ⟨a, vs, g1, g3, gF, g4, E2⟩ := E1.outW ew
              obtain ⟨a', m1, m2⟩ := rp
              rw [g1] at m1
              cases m1
              subst m2
              exact P a vs S1 H1 r1 e1 k1 gF E2 (allD_rep ea g4)
theorem is_take (h : IsE X W e t f) : IsL X W e t (lTake f) := ⟨h.pe, tokL_take h.ok⟩
end
end Den

namespace Den
open PySem PySem.Spec PyProof.Rows L2
open Evl (Ex)
/-! ### what a dict holds -/
def rDin (neg : Bool) : R2 := fun y x H Q => ∃ a o, x = .ref a ∧ DGet H a y o ∧ Q (.bl (if neg then !o.isSome else o.isSome)) H
theorem op_din {X : Cx} (hu : X.A.units + 1 < cLine) : OpR X (compareOp .In) (rDin false) := by
  intro pins s σ H x y v u Q I rx ry h
  obtain ⟨a, o, rfl, g, q⟩ := h
  cases ry
  exact d_in hu I g rx fun s' I' => ⟨.bl o.isSome, H, I', rfl, q⟩
theorem op_dnotin {X : Cx} (hu : X.A.units + 1 < cLine) : OpR X (compareOp .NotIn) (rDin true) := by
  intro pins s σ H x y v u Q I rx ry h
  obtain ⟨a, o, rfl, g, q⟩ := h
  cases ry
  exact d_notIn hu I g rx fun s' I' => ⟨.bl (!o.isSome), H, I', rfl, q⟩
def gDin (neg : Bool) : D → D → Option D := fun y x => (dgetD x y).map fun o => .bl (if neg then !o.isSome else o.isSome)
theorem r2_din {K : PySem.W.Frag} (neg : Bool) : R2ok K (rDin neg) (gDin neg) := by
  intro F S H r σ q y x z vy vx E ry rx hz Q k
  have hz' : (dgetD x y).map (fun o => D.bl (if neg then !o.isSome else o.isSome)) = some z := hz
  cases e : dgetD x y with
  | none => rw [e] at hz'; cases hz'
  | some o =>
    rw [e] at hz'
    cases hz'
    obtain ⟨a, ov, ea, g, _, orp⟩ := dget_of E.sub e rx ry
    have es : ov.isSome = o.isSome := by
      cases o with
      | none =>
        cases ov with
        | none => rfl
        | some v => exact False.elim orp
      | some d =>
        cases ov with
        | none => exact False.elim orp
        | some v => rfl
    refine ⟨a, ov, ea, g, ?_⟩
    rw [es]
    exact k _ S H (Ex.refl _) E rp_bl
/-- d.get(k) -/
def isDic : D → Bool
  | .dic _ _ => true
  | .dit _ _ => true
  | _ => false
def getStep (x k : XV) (q : Stt) : Option (Rs XV) := match x, k with
  | .d x, .d k => (dgetD x k).map fun o => (.ok (.d (o.getD .non)), q)
  | _, _ => none
def isDicX : XV → Bool
  | .d x => isDic x
  | _ => false
def eGet1 (f1 f2 : ME XV) : ME XV := bnd f1 fun x q => if isDicX x then bnd f2 (fun k q => getStep x k q) q else none
theorem isD_of {K : PySem.W.Frag} {S H : Hp} (E : Ex S H) {x : D} {v : V} (h : isDic x = true) (rx : Rep K S x v) : ∃ a, v = .ref a ∧ IsD H a := by
  cases x with
  | dic ks ds =>
    rw [Rep] at rx
    obtain ⟨a, vs, rfl, h1, _⟩ := rx
    exact ⟨a, rfl, .inl ⟨_, .inl (E _ _ h1)⟩⟩
  | dit ks ds =>
    rw [Rep] at rx
    obtain ⟨a, vs, rfl, h1, _⟩ := rx
    exact ⟨a, rfl, .inr ⟨_, .inl (E _ _ h1)⟩⟩
  | _ => cases h
section
variable {X : Cx} {W : WX} {o e : Expr} {t1 t2 : TE} {f1 f2 : ME XV} {pos apos : Pos}
theorem is_get1 (hu : X.A.units + 1 < cLine) (ho : IsE X W o t1 f1) (hk : IsE X W e t2 f2) (m : M1 X o "get" apos e pos) : IsE X W (.Call (.Attribute o "get" apos) [e] [] pos) (tDGet1 t1 t2) (eGet1 f1 f2) := by
  refine ⟨pe_dget1 hu ho.pe hk.pe m, ?_⟩
  refine Tok.bind (t2 := fun x σ H Q => ∃ a, x = V.ref a ∧ IsD H a ∧ t2 σ H fun y H2 => ∃ o, DGet H2 a y o ∧ Q (o.getD .non) H2) ho.ok fun x v F S H r σ q z E rx hz Q P => ?_
  have hz' : (if isDicX x = true then bnd f2 (fun k q => getStep x k q) q else none) = some z := hz
  by_cases hi : isDicX x = true
  · rw [if_pos hi] at hz'
    cases x with
    | h _ => cases hi
    | d x =>
      obtain ⟨a, ea, hd⟩ := isD_of E.sub hi rx
      refine ⟨a, ea, hd, ?_⟩
      refine run_at (rep2 := RX X.K) hk.ok E hz' P fun y w S1 H1 r1 q1 ex1 k1 E1 ry hz P => ?_
      cases y with
      | h _ => cases hz
      | d y =>
        have hz2 : ((dgetD x y).map fun o => ((.ok (.d (o.getD .non)), q1) : Rs XV)) = some z := hz
        cases e3 : dgetD x y with
        | none => rw [e3] at hz2; cases hz2
        | some o =>
          rw [e3] at hz2
          cases hz2
          obtain ⟨a2, ov, ea2, g, _, orp⟩ := dget_of E1.sub e3 (Rep.toH E1.sub (Rep.mono ex1 _ _ rx)) (Rep.toH E1.sub ry)
          rw [ea] at ea2
          cases ea2
          refine ⟨ov, g, ?_⟩
          cases o with
          | some dv =>
            cases ov with
            | none => exact False.elim orp
            | some v' => exact P v' S1 H1 r1 (Ex.refl _) (Rle.refl _) E1 orp
          | none =>
            cases ov with
            | some v' => exact False.elim orp
            | none => exact P .non S1 H1 r1 (Ex.refl _) (Rle.refl _) E1 (show Rep X.K S1 .non .non from rp_non)
  · rw [if_neg hi] at hz'
    cases hz'
end
/-! ### a dict of the module, its keys texts -/
def kdD (tb : List (Str × D)) : D → Option D
  | .str z => (tb.find? fun p => decide (p.1 = z)).map (·.2)
  | _ => none
structure KdOk (K : PySem.W.Frag) (w : World) (d : Addr) (tb : List (Str × D)) : Prop where
  dict : ∃ es n, KDict K w d es n
  at_ : ∀ p ∈ tb, ∃ u v, PySem.W.nsIn K d p.1 = some (some u) ∧ RelV v u ∧ ∀ S, Rep K S p.2 v
def eKd (tb : List (Str × D)) (f : ME XV) : ME XV := bnd f fun x => lft (match x with | .d x => (kdD tb x).map .d | _ => none)
def rKd (K : PySem.W.Frag) (d : Addr) : R2 := fun x y H Q => ∃ (z : Str) (u0 : Value) (v0 : V), x = .ref d ∧ y = .str z ∧ PySem.W.nsIn K d z = some (some u0) ∧ RelV v0 u0 ∧ Q v0 H
theorem ix_kd {X : Cx} {d : Addr} {es : Array DictEntry} {n : Nat} (D : KDict X.K X.w d es n) : IxR X (rKd X.K d) := by
  intro value slice pins s σ H x y v u Q I rx ry h hs
  obtain ⟨z, u0, v0, rfl, rfl, e, r, q⟩ := h
  obtain rfl : v = Value.ref d := rx
  obtain ⟨t, rfl⟩ := ry
  unfold subscriptTail
  have hT := kd_type D I
  refine wpAny_bind ?_
  rw [getitemInPython_of_ne hT.not_modules]
  refine wpAny_bind (wpAny_specialOf hT PySem.F.slot_dict_getitem.lookup ?_)
  have fin : wpAny (model X.prog X.w) X.A (subscripted slice false (.ref d) (.str z t)) (fun r s₃ => wpAny (model X.prog X.w) X.A (letTemporaryGo value (.ref d) r >>= fun _ => pure r) (EP X pins σ Q) X.xe s₃) X.xe s := by
    rw [hs]
    exact wpAny_operating (wpAny_getItem_of (PySem.strKind_is X.prog X.w z t) (PySem.W.mapOf_K (prog := X.prog) I.kIn D.at_ D.lit) (PySem.W.find_K D.at_ e) (wpAny_bind (wpAny_letTemporaryGo (wpAny_pure ⟨v0, H, I.tok _, r, q⟩))))
  first
    | exact wpAny_pure (wpAny_bind fin)
    | exact wpAny_bind (wpAny_pure (wpAny_bind fin))
    | exact wpAny_bind fin
section
variable {X : Cx} {W : WX} {e2 : Expr} {t2 : TE} {f2 : ME XV} {pos p2 : Pos} {d : Addr} {tb : List (Str × D)} {x : Str}
theorem is_kd (k : KdOk X.K X.w d tb) (hm : X.mg x = some (.ref d)) (h2 : IsE X W e2 t2 f2) (hg : Gl X x := by rfl) (hd : (x == ("__debug__" : Str)) = false := by decide) (hs : PlainIx e2 := by exact fun _ _ => rfl) : IsE X W (.Subscript (.Name x p2) e2 pos) (tOp (rKd X.K d) (tC (.ref d)) t2) (eKd tb f2) := by
  obtain ⟨es, n, DK⟩ := k.dict
  refine ⟨pe_ix (ix_kd DK) (pe_glob hg hm rfl hd) h2.pe hs, ?_⟩
  intro F S H r σ q z E hz Q P
  show t2 σ H fun y H1 => rKd X.K d (.ref d) y H1 Q
  refine run_at (rep2 := RX X.K) h2.ok E hz P fun y w S1 H1 r1 q1 ex1 k1 E1 ry hz P => ?_
  cases y with
  | h _ => cases hz
  | d y =>
    cases y with
    | str zz =>
      have hz' : lft (((tb.find? fun p => decide (p.1 = zz)).map (·.2)).map XV.d) q1 = some z := hz
      cases ef : tb.find? fun p => decide (p.1 = zz) with
      | none => rw [ef] at hz'; cases hz'
      | some p =>
        rw [ef] at hz'
        cases hz'
        have hp := List.mem_of_find?_eq_some ef
        have hk : p.1 = zz := of_decide_eq_true (List.find?_some (p := fun p : Str × D => decide (p.1 = zz)) ef)
        obtain ⟨u, v, h1, hr, h3⟩ := k.at_ p hp
        have ew : w = .str zz := by
          have ry' : Rep X.K S1 (.str zz) w := ry
          rw [Rep] at ry'
          exact ry'
        exact ⟨zz, u, v, rfl, ew, by rw [← hk]; exact h1, hr, P v S1 H1 r1 (Ex.refl _) (Rle.refl _) E1 (h3 S1)⟩
    | _ => cases hz
end
end Den

namespace Den
open PySem PySem.Spec PyProof.Rows L2
open Evl (Ex)
/-! ### x, *ys = a tuple -/
section
variable {prog : Program} {w : World} {A : Around} {E : Value → Shared → Prop} {s : Shared}
theorem unpack_star2 {l : Addr} {items : Array Value} {u0 : Value} {us : List Value} {Q : List Value → Shared → Prop} (hh : A.handled = none) (hl : IsTup s.heap l items) (hi : items.toList = u0 :: us) (hz : items.size ≤ 16384)
    (h : ∀ (h' : Heap) (tk : Nat), (∀ (b : Addr) (o : Obj), s.heap.get? b = some o → h'.get? b = some o) → Q [u0, .ref h'.objs.size] { s with heap := h'.push { cls := .type "list", data := .seq us.toArray }, toks := tk }) :
    wpAny (model prog w) A (unpackItems (.ref l) 2 (some 1)) Q E s := by
  have hlt : l ≠ s.heap.objs.size := by obtain ⟨o, ho, _⟩ := hl; exact Nat.ne_of_lt (Heap.lt_size ho)
  have hsz : items.size = us.length + 1 := by rw [← Array.length_toList, hi, List.length_cons]
  unfold unpackItems
  refine wpAny_bind ?_
  unfold notIterableAtAll
  refine wpAny_bind (wpAny_specialOf hl.typeIs slot_tuple_iter.lookup ?_)
  refine wpAny_pure ?_
  simp only [Bool.false_eq_true, if_false]
  refine wpAny_bind (wpAny_holding (iter_tuple hl ?_))
  refine wpAny_bind (wpAny_holding (draw_tuple hlt 1 0 _ _ ⟨_, Heap.get?_push_size _ rfl, rfl, rfl⟩ (hl.push _) (by omega) fun h₁ hit₁ hs₁ => ?_))
  have hl₁ : IsTup h₁ l items := (hl.push _).extBut hs₁.extBut hlt
  rw [Nat.zero_add] at hit₁
  have hit₂ := hit₁
  obtain ⟨oi, hoi, _⟩ := hit₂
  have hl₂ := hl₁
  obtain ⟨ol, hol, _⟩ := hl₂
  have hf : (items.toList.drop 0).take 1 = [u0] := by rw [hi]; rfl
  rw [hf]
  show wpAny _ _ (if ([u0] : List Value).length < 1 then _ else _) _ _ _
  rw [if_neg (by simp)]
  refine wpAny_bind (wpAny_holding (PySem.W.kun_collect (s := { s with heap := h₁ }) (T := "tuple_iterator") (.inr (.inr (.inr rfl))) (Walks.tuple (A := A.in1) hh s.heap.objs.size l hlt items) (fun j u st => st.1.typeIs) (k := 1) (by omega) ⟨hit₁, hl₁⟩ (Heap.lt_size hoi) (Heap.lt_size hol) (fun h₂ tk hk => ?_) (by rw [sizeLine_eq]; omega)))
  have hr : items.toList.drop 1 = us := by rw [hi]; rfl
  rw [hr]
  show wpAny _ _ (if us.length < 2 - 1 - 1 then _ else _) _ _ _
  rw [if_neg (by omega)]
  show wpAny _ _ (newList (us.take (us.length - (2 - 1 - 1))) >>= fun d => pure ([u0] ++ [d] ++ us.drop (us.length - (2 - 1 - 1)))) _ _ _
  have e1 : us.take (us.length - (2 - 1 - 1)) = us := List.take_of_length_le (by omega)
  have e2 : us.drop (us.length - (2 - 1 - 1)) = [] := List.drop_eq_nil_of_le (by omega)
  rw [e1, e2]
  refine wpAny_bind (wpAny_newObj_type (T := "list") (wpAny_pure (h h₂ tk fun b o e => ?_)) (by show us.toArray.size ≤ sizeLine; rw [List.size_toArray, sizeLine_eq]; omega))
  have hne : b ≠ s.heap.objs.size := Nat.ne_of_lt (Heap.lt_size e)
  exact hk b o hne (hs₁.extBut b o hne (Heap.get?_push_of_some _ e))
end
def gStar2 (K : PySem.W.Frag) (i j : Nat) : TG := fun v σ H Q => ∃ a x0 rest, v = .ref a ∧ SqT K H a (x0 :: rest) ∧ rest.length ≤ 1000 ∧ ∀ D, H D = none → Q ((σ.set i (some x0)).set j (some (.ref D))) (upd H D (.lst rest))
section
variable {X : Cx} {W : WX} {e : Expr} {t : TE} {f : ME XV} {pos p1 p2 p3 p4 : Pos} {x y : Str} {i j : Nat} {k}
theorem pg_star2 (hc : X.calm = true) (hN : X.N.Nodup) (hi : X.N[i]? = some x) (hj : X.N[j]? = some y) (hx : X.env.scope.names.lookup x = some .local) (hy : X.env.scope.names.lookup y = some .local) :
    PG X (.Tuple [.Name x p1, .Starred (.Name y p2) p3] k p4) (gStar2 X.K i j) := by
  refine ⟨fun pins s σ H v u Q I r h => ?_⟩
  obtain ⟨a, x0, rest, rfl, hq, hl, q⟩ := h
  cases r
  obtain ⟨its, rv, ht, hz⟩ := I.tuple hq
  obtain ⟨u0, us, rfl, r0, r1⟩ : ∃ u0 us, its = u0 :: us ∧ RelV x0 u0 ∧ Vals rest us := by
    cases rv with
    | cons p q => exact ⟨_, _, rfl, p, q⟩
  have hlen := r1.length
  rw [assign_Tuple]
  refine wpAny_bind (wpAny_standAt ?_)
  unfold unpack
  have hn : (assignEach [.Name x p1, .Starred (.Name y p2) p3] X.env).length = 2 := rfl
  have hst : (assignEach [.Name x p1, .Starred (.Name y p2) p3] X.env).findIdx? (·.1) = some 1 := rfl
  rw [hn, hst]
  refine wpAny_bind (wpAny_holding (unpack_star2 (I.ok.hd hc) ht (u0 := u0) (us := us) (by simp) (by rw [List.size_toArray, List.length_cons]; omega) fun h' tk hk => ?_))
  show wpAny _ _ (assignInOrder [assign (.Name x p1) X.env, assign (.Name y p2) X.env] [u0, .ref h'.objs.size]) _ _ _
  have I1 : Inv X pins σ H { s with heap := h', toks := tk } := I.kept (t' := tk) hk
  have new : ObjOk X.prog X.w (upd H h'.objs.size (.lst rest)) (h'.push { cls := .type "list", data := .seq us.toArray }) h'.objs.size (.lst rest) := ⟨by rw [sizeLine_eq]; omega, us, 0, r1, Heap.get?_push_size _ rfl⟩
  have I2 : Inv X pins σ (upd H h'.objs.size (.lst rest)) { s with heap := h'.push { cls := .type "list", data := .seq us.toArray }, toks := tk } := I1.laid (t' := tk) (fun b o q => Heap.get?_push_of_some _ q) (Nat.le_refl _) new
  refine assignInOrder_cons (wpAny_assign_Name (store_ok I2 hN hi (.inl hx) r0 (fun s2 I3 => ?_) (.inr hx)))
  refine assignInOrder_cons (wpAny_assign_Name (store_ok (v := .ref h'.objs.size) I3 hN hj (.inl hy) rfl (fun s3 I4 => assignInOrder_nil ?_) (.inr hy)))
  exact ⟨_, _, I4, q _ (I1.hok.fresh (Nat.le_refl _))⟩
def starStep (i j : Nat) (x : XV) (q : Stt) : Option Fl := match x with
  | .d (.tup (x0 :: rest)) => if rest.length ≤ 1000 ∧ i < q.sl.length ∧ j < q.sl.length then some (.nx { q with sl := (q.sl.set i (.dat x0)).set j (.ol rest) }) else none
  | _ => none
def sStar2 (f : ME XV) (i j : Nat) : MS := sOf f fun x => starStep i j x
theorem is_star2 (i j : Nat) (hc : X.calm = true) (hN : X.N.Nodup) (he : IsE X W e t f) (hi : X.N[i]? = some x := by rfl) (hj : X.N[j]? = some y := by rfl) (hx : X.env.scope.names.lookup x = some .local := by rfl) (hy : X.env.scope.names.lookup y = some .local := by rfl)
    (hs : swapsWithSole [.Tuple [.Name x p1, .Starred (.Name y p2) p3] k p4] e pos.line X.env = pure false := by rfl) (hw : swappedStores [.Tuple [.Name x p1, .Starred (.Name y p2) p3] k p4] e X.env = pure none := by rfl) :
    IsS X W (.Assign [.Tuple [.Name x p1, .Starred (.Name y p2) p3] k p4] e pos) (tAsg t (gStar2 X.K i j)) (sStar2 f i j) := by
  refine ⟨ps_asg he.pe (pg_star2 hc hN hi hj hx hy) hs hw rfl, ?_⟩
  intro F S H r σ q z E hz d P
  refine sof_at he.ok E hz P fun xv v S1 H1 r1 q1 ex1 k1 E1 rv hz P => ?_
  cases xv with
  | h _ => cases hz
  | d xv =>
    cases xv with
    | tup ds =>
      cases ds with
      | nil => cases hz
      | cons x0 rest =>
        obtain ⟨⟨hl, hi', hj'⟩, ez⟩ := ifs (show (if rest.length ≤ 1000 ∧ i < q1.sl.length ∧ j < q1.sl.length then some (Fl.nx { q1 with sl := (q1.sl.set i (.dat x0)).set j (.ol rest) }) else none) = some z from hz)
        subst ez
        have rv' : Rep X.K S1 (.tup (x0 :: rest)) v := rv
        rw [Rep] at rv'
        obtain ⟨a, vs, rfl, h1, h2⟩ := rv'
        rw [RepL] at h2
        obtain ⟨v0, tl, rfl, g1, g2⟩ := h2
        refine ⟨a, v0, tl, rfl, SqT.of (E1.sub _ _ h1), by rw [← g2.length]; exact hl, fun D hD => ?_⟩
        have E2 := E1.putD i g1 hi'
        exact P _ S1 _ r1 (Ex.refl _) (Rle.refl _) ((E2.add hD (.lst tl)).own (E2.newF hD) j (.ol rest) (fun ow hw hH => ⟨D, tl, rfl, hw, hH, g2⟩) (by simpa using hj'))
    | _ => cases hz
end
end Den

namespace Den
open PySem PySem.Spec PyProof.Rows L2
open Evl (Ex)
/-! ### zip of two tuples, of two lists -/
def zipD (ds es : List D) : List D := (ds.zip es).map fun x => .tup [x.1, x.2]
theorem zipD_get {ds es : List D} {i : Nat} {d : D} (h : (zipD ds es)[i]? = some d) : ∃ x y, ds[i]? = some x ∧ es[i]? = some y ∧ d = .tup [x, y] := by
  unfold zipD at h
  rw [List.getElem?_map] at h
  cases e : (ds.zip es)[i]? with
  | none => rw [e] at h; cases h
  | some p =>
    rw [e] at h
    have h' := Option.some.inj h
    have hp := List.getElem?_zip_eq_some.mp e
    exact ⟨p.1, p.2, hp.1, hp.2, h'.symm⟩
theorem zipD_len {ds es : List D} {i : Nat} (h : (zipD ds es).length ≤ i) : ds.length ≤ i ∨ es.length ≤ i := by
  unfold zipD at h
  rw [List.length_map, List.length_zip] at h
  omega
section
variable {K : PySem.W.Frag} {S : Hp} {a b : Addr} {vs us : List V} {ds es : List D}
theorem wlk_zipT (h : SqT K S a vs) (h' : SqT K S b us) (rp : RepL K S ds vs) (rp' : RepL K S es us) : Wlk K S (RZ.ItzT K a b) (zipD ds es) := by
  refine ⟨fun F S2 H r σ q i d e E hd => ?_, fun F S2 H r σ q i e E hi => ?_⟩
  · have h2 : SqT K H a vs := Evl.ex_t E.sub (Evl.ex_t e h)
    have h3 : SqT K H b us := Evl.ex_t E.sub (Evl.ex_t e h')
    obtain ⟨x, y, hx, hy, rfl⟩ := zipD_get hd
    obtain ⟨v, hv, rv⟩ := rp.get hx
    obtain ⟨u, hu, ru⟩ := rp'.get hy
    refine ⟨⟨vs, us, v, u, h2, h3, hv, hu⟩, fun x' H' z => ?_⟩
    obtain ⟨T, v', u', rfl, hT, rfl, f1, f2⟩ := z
    have ev : v' = v := Option.some.inj ((f1 vs h2).symm.trans hv)
    have eu : u' = u := Option.some.inj ((f2 us h3).symm.trans hu)
    subst ev eu
    obtain ⟨S', ex, E', rp'⟩ := new_tup E hT (ds := [x, y]) (vs := [v', u']) ⟨_, _, rfl, Rep.mono e _ _ rv, _, _, rfl, Rep.mono e _ _ ru, rfl⟩
    exact ⟨S', ex, E', rp'⟩
  · exact ⟨vs, us, Evl.ex_t E.sub (Evl.ex_t e h), Evl.ex_t E.sub (Evl.ex_t e h'), by rw [← rp.length, ← rp'.length]; exact zipD_len hi⟩
theorem wlk_zipL (h : SqL K S a vs) (h' : SqL K S b us) (rp : RepL K S ds vs) (rp' : RepL K S es us) : Wlk K S (Itz K a b) (zipD ds es) := by
  refine ⟨fun F S2 H r σ q i d e E hd => ?_, fun F S2 H r σ q i e E hi => ?_⟩
  · have h2 : SqL K H a vs := Evl.ex_l E.sub (Evl.ex_l e h)
    have h3 : SqL K H b us := Evl.ex_l E.sub (Evl.ex_l e h')
    obtain ⟨x, y, hx, hy, rfl⟩ := zipD_get hd
    obtain ⟨v, hv, rv⟩ := rp.get hx
    obtain ⟨u, hu, ru⟩ := rp'.get hy
    refine ⟨⟨vs, us, v, u, h2, h3, hv, hu⟩, fun x' H' z => ?_⟩
    obtain ⟨T, v', u', rfl, hT, rfl, f1, f2⟩ := z
    have ev : v' = v := Option.some.inj ((f1 vs h2).symm.trans hv)
    have eu : u' = u := Option.some.inj ((f2 us h3).symm.trans hu)
    subst ev eu
    obtain ⟨S', ex, E', rp'⟩ := new_tup E hT (ds := [x, y]) (vs := [v', u']) ⟨_, _, rfl, Rep.mono e _ _ rv, _, _, rfl, Rep.mono e _ _ ru, rfl⟩
    exact ⟨S', ex, E', rp'⟩
  · exact ⟨vs, us, Evl.ex_l E.sub (Evl.ex_l e h), Evl.ex_l E.sub (Evl.ex_l e h'), by rw [← rp.length, ← rp'.length]; exact zipD_len hi⟩
end
def zipX : List XV → Option (List D)
  | [.d (.tup ds), .d (.tup es)] => some (zipD ds es)
  | [.d (.lst ds), .d (.lst es)] => some (zipD ds es)
  | _ => none
def iZip (fa : ME (List XV)) : ME (List D) := bnd fa fun xs => lft (zipX xs)
section
variable {X : Cx} {W : WX} {e e2 : Expr} {ta : TA} {fa : ME (List XV)} {pos p tpos : Pos} {elts : List Expr} {kk : Nat} {K : PySem.W.Frag}
theorem tok_zip (h : Tok (RXL K) K W ta fa) : Tok (RI K) K W (RZ.iZipA K ta) (iZip fa) := by
  refine Tok.bind (t2 := fun vs σ H R => ∃ a b xs ys, vs = [V.ref a, V.ref b] ∧ ((SqL K H a xs ∧ SqL K H b ys ∧ R (Itz K a b) H) ∨ (SqT K H a xs ∧ SqT K H b ys ∧ R (RZ.ItzT K a b) H))) h fun x v F S H r σ q z E rx hz Q P => ?_
  have hz' : lft (zipX x) q = some z := hz
  unfold zipX at hz'
  split at hz'
  · cases hz'
    obtain ⟨v1, t1, rfl, r1, v2, t2, rfl, r2, e3⟩ := rx
    have e3' : t2 = [] := e3
    subst e3'
    have r1' : Rep K S (.tup _) v1 := r1
    have r2' : Rep K S (.tup _) v2 := r2
    rw [Rep] at r1' r2'
    obtain ⟨a, vs, rfl, h1, h2⟩ := r1'
    obtain ⟨b, us, rfl, g1, g2⟩ := r2'
    exact ⟨a, b, vs, us, rfl, .inr ⟨SqT.of (E.sub _ _ h1), SqT.of (E.sub _ _ g1), P _ S H r (Ex.refl _) (Rle.refl _) E (wlk_zipT (SqT.of h1) (SqT.of g1) h2 g2)⟩⟩
  · cases hz'
    obtain ⟨v1, t1, rfl, r1, v2, t2, rfl, r2, e3⟩ := rx
    have e3' : t2 = [] := e3
    subst e3'
    have r1' : Rep K S (.lst _) v1 := r1
    have r2' : Rep K S (.lst _) v2 := r2
    rw [Rep] at r1' r2'
    obtain ⟨a, vs, rfl, h1, h2⟩ := r1'
    obtain ⟨b, us, rfl, g1, g2⟩ := r2'
    exact ⟨a, b, vs, us, rfl, .inl ⟨SqL.of (E.sub _ _ h1), SqL.of (E.sub _ _ g1), P _ S H r (Ex.refl _) (Rle.refl _) E (wlk_zipL (SqL.of h1) (SqL.of g1) h2 g2)⟩⟩
  · cases hz'
theorem is_zip (hm : X.mg "zip" = none) (h : IsA X W [e, e2] ta fa) (hg : Gl X "zip" := by rfl) (hs : starEach [e, e2] X.env = (false, eval e X.env) :: starEach [e2] X.env := by rfl) (hpl : (backTo pos (starEach [e2] X.env)).any (·.1) = false := by rfl) :
    IsI X W (.Tuple elts kk tpos) (.Call (.Name "zip" p) [e, e2] [] pos) (RZ.iZipA X.K ta) (iZip fa) := ⟨RZ.pi_zipA hg hm h.pa hs hpl, tok_zip h.ok⟩
end
end Den

namespace Den
open PySem PySem.Spec PyProof.Rows L2
open Evl (Ex)
/-! ### stores into a dict whose keys are tuples -/
section
variable {K : PySem.W.Frag} {F S H : Hp} {r : List Addr} {σ : L2.St} {q : Stt} {i : Nat} {a : Addr}
theorem Env.outT {ks : List (List Key)} {ds : List D} (E : Env K F S H r σ q) (h : q.sl[i]? = some (.ot ks ds)) :
    ∃ a vs, σ[i]? = some (some (.ref a)) ∧ H a = some (.dT (ks.zip vs)) ∧ F a = none ∧ ks.length = ds.length ∧ RepL K S ds vs ∧ i < q.sl.length ∧ Env K (upd F a (.dT (ks.zip vs))) S H r σ { q with sl := q.sl.set i .un } := by
  obtain ⟨a, o, ha, hH, hF, E1, ow, hw, hs⟩ := E.disown h fun ow hk => by
    obtain ⟨a, vs, h1, h2, h3, h4⟩ := hk
    exact ⟨a, _, getD_some h1, h2, h3⟩
  obtain ⟨a', vs, h1, h2, h3, h5, h4⟩ := hs
  cases h1
  rw [hH] at h3
  cases h3
  exact ⟨a, vs, ha, hH, hF, h5, h4, (List.getElem?_eq_some_iff.mp h).1, E1⟩
theorem Env.inT {ks : List (List Key)} {ds : List D} {o : HO} {vs' : List V} {s0 : Sl} (E : Env K (upd F a o) S H r σ { q with sl := q.sl.set i s0 }) (ha : σ[i]? = some (some (.ref a))) (hF : F a = none) (hi : i < q.sl.length) (hl : ks.length = ds.length) (rp : RepL K S ds vs') :
    Env K F S (upd H a (.dT (ks.zip vs'))) r σ { q with sl := q.sl.set i (.ot ks ds) } := by
  have E1 := (E.write (.dT (ks.zip vs'))).own hF i (.ot ks ds) (fun ow hw hH => ⟨a, vs', rfl, hw, hH, hl, rp⟩) (by simpa using hi)
  rw [set_self' ha] at E1
  have e : ({ sl := (q.sl.set i s0).set i (.ot ks ds), w := q.w } : Stt) = { q with sl := q.sl.set i (.ot ks ds) } := by rw [List.set_set]
  rw [← e]
  exact E1
end
def putStepT (i : Nat) : XV → XV → Stt → Option Fl
  | .d v, .d (.tup es), q => match q.sl[i]? with
    | some (.ot ks ds) => (keysD es).bind fun kk => if ks.length < big ∧ ks.Nodup then some (.nx { q with sl := q.sl.set i (.ot (putKs ks kk) (putDs ks ds kk v)) }) else none
    | _ => none
  | _, _, _ => none
def hasT (i : Nat) (q : Stt) : Bool := match q.sl[i]? with
  | some (.ot _ _) => true
  | _ => false
def sPutT (i : Nat) (fk fv : ME XV) : MS := sOf fv fun v q => if hasT i q then sOf fk (fun k => putStepT i v k) q else none
section
variable {X : Cx} {W : WX} {e1 e2 : Expr} {t1 t2 : TE} {f1 f2 : ME XV} {pos : Pos}
theorem is_putT (i : Nat) {x : Str} {p2 pos' : Pos} (hu : X.A.units + 1 < cLine) (hk : IsE X W e1 t1 f1) (hv : IsE X W e2 t2 f2) (hN : X.N[i]? = some x := by rfl) (hvs : Vis X.env.scope x := by first | exact Or.inl rfl | exact Or.inr (Or.inl rfl) | exact Or.inr (Or.inr rfl)) (hd : (x == ("__debug__" : Str)) = false := by decide)
    (hcd : (x == ("__classdict__" : Str)) = false := by decide) (hs : swapsWith e2 (some (.Subscript (.Name x p2) e1 pos')) pos.line X.env = pure false := by rfl) :
    IsS X W (.Assign [.Subscript (.Name x p2) e1 pos'] e2 pos) (sDPut (tVar i) t1 t2) (sPutT i f1 f2) := by
  refine ⟨ps_dput hu (pe_var hN hvs hd hcd) hk.pe hv.pe hs, ?_⟩
  intro F S H r σ q z E hz d P
  refine sof_at hv.ok E hz P fun xv v S1 H1 r1 q1 ex1 k1 E1 rv hz P => ?_
  have hz' : (if hasT i q1 then sOf f1 (fun k => putStepT i xv k) q1 else none) = some z := hz
  by_cases hk1 : hasT i q1 = true
  · rw [if_pos hk1] at hz'
    unfold hasT at hk1
    cases es : q1.sl[i]? with
    | none => rw [es] at hk1; cases hk1
    | some s =>
      rw [es] at hk1
      cases s with
      | ot ks0 ds0 =>
        obtain ⟨a0, vs0, ha0, _⟩ := E1.outT es
        refine ⟨.ref a0, ha0, ?_⟩
        refine sof_at hk.ok E1 hz' P fun xk y S2 H2 r2 q2 ex2 k2 E2 rk hz P => ?_
        cases xv with
        | h n => cases hz
        | d vd =>
          cases xk with
          | h n => cases hz
          | d kd =>
            cases kd with
            | tup es2 =>
              unfold putStepT at hz
              cases es1 : q2.sl[i]? with
              | none => simp only [es1] at hz; cases hz
              | some s1 =>
                cases s1 with
                | ot ks ds =>
                  simp only [es1] at hz
                  cases ek : keysD es2 with
                  | none => rw [ek] at hz; cases hz
                  | some kk =>
                    rw [ek] at hz
                    obtain ⟨hc, ez⟩ := ifs (show (if ks.length < big ∧ ks.Nodup then some (Fl.nx { q2 with sl := q2.sl.set i (.ot (putKs ks kk) (putDs ks ds kk vd)) }) else none) = some z from hz)
                    subst ez
                    obtain ⟨a, vs, ha, hH, hF, hl, rp, hi, E3⟩ := E2.outT es1
                    rw [ha0] at ha
                    cases ha
                    have rv1 : Rep X.K S2 vd v := Rep.mono ex2 _ _ rv
                    obtain ⟨vs', rp', ez⟩ := put_rep (b := kk) rv1 rp hl hc.2
                    have rk' : Rep X.K S2 (.tup es2) y := rk
                    rw [Rep] at rk'
                    obtain ⟨b, us, rfl, g1, g2⟩ := rk'
                    have eu := keysD_of ek g2
                    subst eu
                    refine ⟨a0, upd H2 a0 (.dT ((putKs ks kk).zip vs')), rfl, ?_, ?_⟩
                    · rw [← ez]
                      exact DPut.t hH (E2.sub _ _ g1) (by rw [List.length_zip, ← rp.length, ← hl, Nat.min_self]; exact Nat.lt_of_lt_of_le hc.1 (by decide))
                    · exact P σ S2 _ r2 (Ex.refl _) (Rle.refl _) (E3.inT ha0 hF hi (putKs_len ks ds kk vd hl) rp')
                | _ => simp only [es1] at hz; cases hz
            | _ => cases hz
      | _ => cases hk1
  · rw [if_neg hk1] at hz'
    cases hz'
end
end Den

namespace Den
open PySem PySem.Spec PyProof.Rows L2
open Evl (Ex)
/-! ### {k: v for .. in ..}, its keys tuples: the loop -/
def inBD (P : Program) (w : World) (A : Around) (kx vx : Expr) (D : Addr) (ce : PySem.Env) : (Shared → Prop) → Shared → Prop := fun R s =>
  wpAny (model P w) A (eval kx ce) (fun kv z1 => wpAny (model P w) A (eval vx ce) (fun vv z2 => wpAny (model P w) A (dictSet D kv vv) (fun _ z3 => R z3) no3 z2) no3 z1) no3 s
abbrev D1 (kx vx ta ia : Expr) (fa : List Expr) (scope : Scope) (pos : Pos) : Expr := .DictComp kx vx [⟨ta, ia, fa, 0⟩] scope pos
section
variable {P : Program} {w : World} {A : Around} {ce : PySem.Env} {kx vx ta ia : Expr} {fa : List Expr} {scope : Scope} {pos : Pos} {D : Addr}
theorem loopD1 : LoopB P w A (D1 kx vx ta ia fa scope pos) 0 (.ref D) ce ta fa (inBD P w A kx vx D ce) := by
  intro R it I turn n s hI
  refine compLoop_anyD I (fun n s hI => ?_) n hI
  have no : ∀ {α : Type} {x : Sem α} {Q : α → Shared → Prop} {E : Value → Shared → Prop} {s : Shared}, wpAny (model P w) A x Q no3 s → wpAny (model P w) A x Q E s := fun h => wpAny_mono h (fun _ _ z => z) fun _ _ z => z.elim
  refine wpAny_mono (turn n s hI) (fun r z1 g1 => ?_) fun _ _ z => z.elim
  cases r with
  | none => exact g1
  | some v =>
    refine wpAny_mono g1 (fun _ z2 g2 => wpAny_mono g2 (fun _ z3 g3 => wpAny_mono g3 (fun ok z4 g4 => ?_) fun _ _ z => z.elim) fun _ _ z => z.elim) fun _ _ z => z.elim
    cases ok with
    | false => exact g4
    | true =>
      have g5 : inBD P w A kx vx D ce (fun z5 => ∃ m, m < n ∧ I m z5) z4 := g4
      exact wpAny_mono g5 (fun kv z5 g6 => wpAny_mono g6 (fun vv z6 g7 => no g7) fun _ _ z => z.elim) fun _ _ z => z.elim
end
theorem dictSet_heap {prog : Program} {w : World} {K : Type} [DecidableEq K] {knd : HeapKind prog w K} {A : Around} {E : Value → Shared → Prop} {s : Shared} {d a : Addr} {xs : List (K × Addr × Value)} {k : K} {v : Value} {Q : Unit → Shared → Prop} (hu2 : knd.room A) (hkey : knd.is s.heap k a) (hm : s.heap.DictOfH knd d xs)
    (hQ : ∀ h', h'.DictOfH knd d (storedH xs k a v) → Heap.SameBut d s.heap h' → Q () { s with heap := h', toks := s.toks + knd.draws k }) (hsz : xs.length ≤ sizeLine) : wpAny (model prog w) A (dictSet d (.ref a) v) Q E s := by
  unfold dictSet
  try with_reducible refine wpAny_holding ?_
  refine wpAny_bind (knd.pyHash hu2 hkey ?_)
  exact wpAny_dictSetHashed_heap (s := { s with toks := s.toks + knd.draws k }) hu2 hkey hm hQ hsz
def tElD (tk tv : TE) (D0 : Addr) : TC := fun σ H Nx => tk σ H fun y H1 => tv σ H1 fun z H2 => ∃ kvs k b, y = V.ref b ∧ H2 b = some (.tup (k.map kV)) ∧ H2 D0 = some (.dT kvs) ∧ kvs.length < sizeLine ∧ Nx (upd H2 D0 (.dT (putK kvs k z)))
section
variable {X : Cx} {s0 : Shared} {Hz : Hp} {scope : Scope} {ce : PySem.Env} {fz : List Addr} {kx vx : Expr} {tk tv : TE}
theorem inner_elD {D0 : Addr} (hu : X.A.units + 1 < cLine) (pk : PE (X.blk s0 Hz scope ce fz) kx tk) (pv : PE (X.blk s0 Hz scope ce fz) vx tv) : InnerRun (X.blk s0 Hz scope ce fz) (inBD X.prog X.w X.A kx vx D0 ce) (tElD tk tv D0) [] := by
  intro pins z0 σ0 Ha Nx R Ia qa hR
  show wpAny (model X.prog X.w) X.A (eval kx ce) _ _ _
  refine thnF (pk.run pins z0 σ0 Ha _ Ia qa) fun u z1 ⟨y, Hb, Ib, rb, qb⟩ => ?_
  refine thnF (pv.run pins z1 σ0 Hb _ Ib qb) fun u2 z2 ⟨z, Hc, Ic, rc, kvs, k, b, ey, eb, hD, room, nx⟩ => ?_
  subst ey
  cases (show u = Value.ref b from rb)
  obtain ⟨hl0, hd, xs, rel, dd⟩ := dt_of Ic.hok hD
  have hz : xs.length ≤ sizeLine := by rw [← Paired.length rel]; exact hl0
  have hl : (putK kvs k z).length ≤ sizeLine := by have := length_putK kvs k z; omega
  have hr : (tupleKind (mixKind (X.blk s0 Hz scope ce fz).prog (X.blk s0 Hz scope ce fz).w)).room X.A := (show X.A.units < cLine by omega)
  refine dictSet_heap hr (key_of Ic.hok eb) dd (fun h' dd' hs => hR _ _ ?_ nx) hz
  obtain ⟨o, es, ep, ho, h2, h3, h4, _, h5⟩ := dd'
  refine d_write Ic (by rw [hD]; exact True.intro) hs ⟨o, ho⟩ ⟨hl, hd, _, (rel.put k eb rc).keeps fun c ys ec => ?_, o, es, ep, ho, h2, h3, h4, h5⟩
  rw [upd_ne (ne_of ec hD (fun z => nomatch z))]
  exact ec
end
end Den

namespace Den
open PySem PySem.Spec PyProof.Rows L2
open Evl (Ex)
/-! ### {k: v for .. in ..}, its keys tuples: what it comes to -/
def tDcT (wa : TI) (ga : TG) (da : TT) (tk tv : TE) (va : List Nat) : TE := fun σ H Q => wa σ H fun J H1 => ∀ D, H1 D = none → loopP J ga da (tElD tk tv D) va σ (upd H1 D (.dT [])) fun H2 => Q (.ref D) H2
section
variable {X : Cx} {kx vx ta ia : Expr} {fa : List Expr} {scope : Scope} {own : List (Str × Nat)} {wa : TI} {ga : TG} {da : TT} {tk tv : TE} {pos : Pos}
theorem pe_dcT (hc : X.calm = true) (hN : X.N.Nodup) (hu : X.A.units + 1 < cLine) (pa : PI X ta ia wa) (ok : BlkOk X.N X.env.scope scope own)
    (hga : ∀ (s : Shared) (H : Hp) (C : Addr) (cl : List (Str × Addr)) (fp : List Addr), PG (X.blk s H scope (compEnvC scope cl C X.env) fp) ta ga) (hda : ∀ (s : Shared) (H : Hp) (C : Addr) (cl : List (Str × Addr)) (fp : List Addr), PTs (X.blk s H scope (compEnvC scope cl C X.env) fp) fa da)
    (hk : ∀ (s : Shared) (H : Hp) (C : Addr) (cl : List (Str × Addr)) (fp : List Addr), PE (X.blk s H scope (compEnvC scope cl C X.env) fp) kx tk)
    (hv : ∀ (s : Shared) (H : Hp) (C : Addr) (cl : List (Str × Addr)) (fp : List Addr), PE (X.blk s H scope (compEnvC scope cl C X.env) fp) vx tv)
    (hs : ∀ x, foldedSetIterable ia X.env x = pure x := by intro _; rfl) :
    PE X (D1 kx vx ta ia fa scope pos) (tDcT wa ga da tk tv (own.map (·.2))) := by
  refine ⟨fun pins s σ H Q I h => ?_⟩
  rw [arm_eval_DictComp]
  have hfree : ∀ y ∈ scope.names, y.2 = .free → ∃ c, X.env.cells.lookup y.1 = some c := fun y m e => (ok.free y m e).elim (fun z => I.ok.has _ (.inl z)) fun z => I.ok.has _ (.inr z)
  refine wpAny_comprehension_free (use := none) rfl hs (closure_ok hfree) ok.kind (fun y m e => by rw [ok.uniq y m, e]) (thn (pa.run pins s σ H _ I h) fun xv s1 hx => thn hx fun itv s2 hb => ?_)
  obtain ⟨it, fp, tn, J, Hb, e, Ib, T, sb, fpb, q⟩ := hb
  subst e
  refine wpAny_newObj_type (newEnv_comp ?_)
  generalize hD : s2.heap.objs.size = D
  have nD : Hb D = none := Ib.hok.fresh (Nat.le_of_eq hD)
  obtain ⟨W, ⟨m0, w0⟩, turn⟩ := q D nD
  generalize hs3 : ({ s2 with heap := s2.heap.push { cls := .type "dict", data := .dict #[] } } : Shared) = s3
  have hh3 : s3.heap = s2.heap.push { cls := .type "dict", data := .dict #[] } := by rw [← hs3]
  have Ic : L2.Inv X pins σ (upd Hb D (.dT [])) s3 := by
    rw [← hs3]
    refine Ib.laid (t' := s2.toks) (fun b o e => Heap.get?_push_of_some _ e) (Nat.le_of_eq hD) ?_
    rw [← hD]
    exact dt_empty s2.heap Ib.big
  have lt : ∀ b ∈ fp, b < s2.heap.objs.size := fun b m => by
    obtain ⟨o, e, _⟩ := T.obj _ _ sb b m
    exact Heap.lt_size e
  have fpc : ∀ b ∈ fp, FpOk X pins (upd Hb D (.dT [])) b ∧ b < s3.heap.objs.size := fun b m => by
    refine ⟨⟨?_, (fpb b m).2⟩, by rw [hh3, Heap.size_push]; exact Nat.lt_succ_of_lt (lt b m)⟩
    rw [upd_ne (by rw [← hD]; exact Nat.ne_of_lt (lt b m))]
    exact (fpb b m).1
  have sc : tn 0 s3.heap := T.keep _ _ _ sb fun b _ o e => by rw [hh3]; exact Heap.get?_push_of_some _ e
  have Id := block_start Ic ok hN fpc
  have qga := hga s3 (upd Hb D (.dT [])) s3.heap.objs.size (cellsFrom (s3.heap.objs.size + 1) scope.names (cloFrom X.env.cells scope.names [])) fp
  have qda := hda s3 (upd Hb D (.dT [])) s3.heap.objs.size (cellsFrom (s3.heap.objs.size + 1) scope.names (cloFrom X.env.cells scope.names [])) fp
  have qk := hk s3 (upd Hb D (.dT [])) s3.heap.objs.size (cellsFrom (s3.heap.objs.size + 1) scope.names (cloFrom X.env.cells scope.names [])) fp
  have qv := hv s3 (upd Hb D (.dT [])) s3.heap.objs.size (cellsFrom (s3.heap.objs.size + 1) scope.names (cloFrom X.env.cells scope.names [])) fp
  show codeAny _ _ (.compStart (D1 kx vx ta ia fa scope pos) 0 (.ref it) (.ref D) (compEnvC scope (cellsFrom (s3.heap.objs.size + 1) scope.names (cloFrom X.env.cells scope.names [])) s3.heap.objs.size X.env)) (compPost (model X.prog X.w) X.A X.xe none (EP X pins σ Q) (.ref D) s3.heap.objs.size) { s3 with heap := pushCells (s3.heap.push { cls := .type "dict", data := .dict #[] }) scope.names }
  have nfp : ∀ b ∈ fp, (upd Hb D (.dT [])) b = none := fun b m => (fpc b m).1.1
  generalize hce : compEnvC scope (cellsFrom (s3.heap.objs.size + 1) scope.names (cloFrom X.env.cells scope.names [])) s3.heap.objs.size X.env = ce at Id qga qda qk qv ⊢
  have cL : ce.locals = s3.heap.objs.size := by subst hce; rfl
  generalize hHz : upd Hb D (.dT []) = Hz at Ic Id qga qda qk qv w0 nfp fpc
  generalize hs4 : ({ s3 with heap := pushCells (s3.heap.push { cls := .type "dict", data := .dict #[] }) scope.names } : Shared) = s4 at Id ⊢
  have sd : tn 0 s4.heap := T.keep _ _ _ sc fun b _ o e => by rw [← hs4]; exact pushCells_keeps _ _ _ _ (Heap.get?_push_of_some _ e)
  have runE := inner_elD (X := X) (s0 := s3) (Hz := Hz) (scope := scope) (ce := ce) (fz := fp) (D0 := D) hu qk qv
  have stat : ∀ {σ2 : L2.St} {H2 : Hp} {z : Shared}, L2.Inv (X.blk s3 Hz scope ce fp) [] σ2 H2 z → (∀ b ∈ fp, H2 b = none) → ∀ b ∈ fp, FpOk (X.blk s3 Hz scope ce fp) [] H2 b := fun {σ2 H2 z} Iy hn b m =>
    ⟨hn b m, (Iy.ok.exf b m).1, Iy.ok.exfs b m, .inl m, fun x c e => (Iy.ok.exf b m).2 x c e, fun p hp => absurd (show p ∈ ([] : List (Addr × Obj)) ++ [] from hp) (by simp)⟩
  have loop : codeAny (model X.prog X.w) X.A (.compLoop (D1 kx vx ta ia fa scope pos) 0 (.ref it) (.ref D) ce) (compPost (model X.prog X.w) X.A X.xe none (EP X pins σ Q) (.ref D) s3.heap.objs.size) s4 := by
    refine loopD1 _ _ (fun n z => ∃ i H2, L2.Inv (X.blk s3 Hz scope ce fp) [] (wipe σ (own.map (·.2))) H2 z ∧ tn i z.heap ∧ (∀ b ∈ fp, H2 b = none) ∧ W i n H2) ?_ m0 s4 ⟨0, Hz, Id, sd, nfp, w0⟩
    rintro n z3 ⟨i, Hc, Iy, sy, ny, wy⟩
    rcases turn i n Hc wy with ⟨stop, qq⟩ | ⟨go, Nx, hNx, step⟩
    · refine thnF (T.done (X.blk s3 Hz scope ce fp) rfl rfl rfl hc i [] z3 _ Hc (fun _ _ => False) Iy (stat Iy ny) sy stop) fun r z4 ⟨hr, Iq⟩ => ?_
      subst hr
      have Ir : L2.Inv X pins σ Hc z4 := Ic.call' (ch := fp) Iq.os Iq.base Iq.hok Iq.bare fun b m => ⟨(fpc b m).1.2.2.2.1, (fpc b m).1.2.1, (fpc b m).1.2.2.2.2.1, (fpc b m).1.2.2.2.2.2⟩
      have nC : Hc s3.heap.objs.size = none := by
        have y : Hc ce.locals = none := Iq.free
        rwa [cL] at y
      obtain ⟨m, hn, _⟩ := Iq.loc
      have hn2 : z4.heap.Ns ce.locals m := hn
      rw [cL] at hn2
      refine ⟨m, hn2, fun h2 sb2 => ?_⟩
      obtain ⟨f0, f1, f2, f3, f4, f5⟩ := Ic.fpOk (Nat.le_refl _) nC
      exact ⟨.ref D, Hc, Ir.turned (t' := z4.toks) (fun b o mb e => (sb2.2 b mb).trans e) f0 f1 f3 f4 f5, rfl, qq⟩
    · refine thnF (T.item (X.blk s3 Hz scope ce fp) rfl rfl rfl hc i [] z3 _ Hc (fun _ _ => False) Iy (stat Iy ny) sy go) fun r z4 ⟨u, hr, hd⟩ => ?_
      subst hr
      refine thnF hd fun _ z5 ⟨x, He, Ie, re, ye, se, ne⟩ => ?_
      have Ip := Ie.pinned (stat Ie ne) (T.obj _ _ se)
      refine thnF (qga.run _ z5 _ He x u _ Ip re (step x He ye)) fun _ z6 ⟨σ1, Hf, If, hw, qf⟩ => ?_
      refine thnF (qda.run _ z6 σ1 Hf _ If qf) fun good z7 ⟨Hg, Ig, qg⟩ => ?_
      have fin : ∀ {σ2 : L2.St} {z : Shared} {Hh : Hp}, L2.Inv (X.blk s3 Hz scope ce fp) ([] ++ pinsAt fp z5.heap) σ2 Hh z → (wipe σ (own.map (·.2))).length = σ2.length → (∀ (j : Nat) v, (wipe σ (own.map (·.2)))[j]? = some (some v) → σ2[j]? = some (some v)) → Nx Hh →
          ∃ m, m < n ∧ ∃ i H2, L2.Inv (X.blk s3 Hz scope ce fp) [] (wipe σ (own.map (·.2))) H2 z ∧ tn i z.heap ∧ (∀ b ∈ fp, H2 b = none) ∧ W i m H2 := fun {σ2 z Hh} Ih hl hk nx => by
        obtain ⟨m2, hm, w2⟩ := hNx Hh nx
        have pin : ∀ b ∈ fp, ∀ o, z5.heap.get? b = some o → z.heap.get? b = some o ∧ Hh b = none := fun b m o e =>
          have y := Ih.pin (b, o) (List.mem_append_right _ (List.mem_append_right _ (mem_pinsAt m e)))
          ⟨y.1, y.2.1⟩
        refine ⟨m2, hm, i + 1, Hh, (Ih.unpinned (pins := [])).weak hl hk, T.keep _ _ _ se fun b m o e => (pin b m o e).1, fun b m => ?_, w2⟩
        obtain ⟨o, e, _⟩ := T.obj _ _ se b m
        exact (pin b m o e).2
      cases good with
      | false =>
        simp only [Bool.false_eq_true, if_false] at qg ⊢
        exact fin Ig (by rw [← hw, wipe_length]) (fun j v e => by rw [← hw] at e; exact (wipe_some e).1) qg
      | true =>
        simp only [if_true] at qg ⊢
        refine runE _ z7 σ1 Hg Nx _ Ig qg fun z8 Hh Ih nx => fin Ih (by rw [← hw, wipe_length, wipe_length]) (fun j v e => ?_) nx
        rw [← hw] at e
        obtain ⟨y1, y2⟩ := wipe_some e
        exact y1
  exact codeAny_compStart_dict loop (T.self X.A 0 _ _ _ sd loop)
end
end Den

namespace Den
open PySem PySem.Spec PyProof.Rows L2
open Evl (Ex)
/-! ### {k: v for .. in ..}, its keys tuples, by values -/
abbrev KD := List (List Key) × List D
def RAt (K : PySem.W.Frag) : Hp → KD → HO → Prop := fun S acc o => ∃ us, o = .dT (acc.1.zip us) ∧ acc.1.length = acc.2.length ∧ RepL K S acc.2 us
theorem moT {K : PySem.W.Frag} : ∀ S S' a o, Ex S S' → RAt K S a o → RAt K S' a o := fun S S' a o e ⟨us, h1, h2, h3⟩ => ⟨us, h1, h2, RepL.mono e _ _ h3⟩
def elTs (acc : KD) (es : List D) (x : D) (q : Stt) : Option (KD × Stt) := (keysD es).bind fun kk => if acc.1.length < big ∧ acc.1.Nodup then some ((putKs acc.1 kk, putDs acc.1 acc.2 kk x), q) else none
def elTv (acc : KD) (es : List D) (z : Option (Rs XV)) : Option (KD × Stt) := match z with
  | some (.ok (.d x), q2) => elTs acc es x q2
  | _ => none
def elT (fk fv : ME XV) : KD → Stt → Option (KD × Stt) := fun acc q => match fk q with
  | some (.ok (.d (.tup es)), q1) => elTv acc es (fv q1)
  | _ => none
theorem tokC_elT {K : PySem.W.Frag} {D0 : Addr} {tk tv : TE} {fk fv : ME XV} (hk : Tok (RX K) K W0 tk fk) (hv : Tok (RX K) K W0 tv fv) : TokC K (RAt K) D0 [] (tElD tk tv D0) (elT fk fv) := by
  intro F S H r σ q acc o accE qE Nx E ra hz P
  obtain ⟨us, rfl, hlen, ra⟩ := ra
  unfold elT at hz
  cases e : fk q with
  | none => rw [e] at hz; cases hz
  | some y =>
    obtain ⟨y, q1⟩ := y
    rw [e] at hz
    cases y with
    | error c => cases hz
    | ok y =>
      cases y with
      | h n => cases hz
      | d y =>
        cases y with
        | tup es =>
          have hz1 : elTv acc es (fv q1) = some (accE, qE) := hz
          unfold elTv at hz1
          refine hk _ S H r σ q _ E e _ fun v S1 H1 r1 e1 k1 E1 rv => ?_
          cases e' : fv q1 with
          | none => rw [e'] at hz1; cases hz1
          | some y2 =>
            obtain ⟨y2, q2⟩ := y2
            rw [e'] at hz1
            cases y2 with
            | error c => cases hz1
            | ok y2 =>
              cases y2 with
              | h n => cases hz1
              | d x =>
                have hz2 : elTs acc es x q2 = some (accE, qE) := hz1
                unfold elTs at hz2
                refine hv _ S1 H1 r1 σ q1 _ E1 e' _ fun v2 S2 H2 r2 e2 k2 E2 rv2 => ?_
                cases ek : keysD es with
                | none => rw [ek] at hz2; cases hz2
                | some kk =>
                  rw [ek] at hz2
                  obtain ⟨hc, ez⟩ := ifs (show (if acc.1.length < big ∧ acc.1.Nodup then some ((putKs acc.1 kk, putDs acc.1 acc.2 kk x), q2) else none) = some (accE, qE) from hz2)
                  cases ez
                  have rv' : Rep K S1 (.tup es) v := rv
                  rw [Rep] at rv'
                  obtain ⟨b, ws, rfl, g1, g2⟩ := rv'
                  have eu := keysD_of ek g2
                  subst eu
                  have ra2 := RepL.mono (e1.trans e2) _ _ ra
                  obtain ⟨vs', rp', ez⟩ := put_rep (b := kk) (show Rep K S2 x v2 from rv2) ra2 hlen hc.2
                  refine ⟨acc.1.zip us, kk, b, rfl, E2.sub _ _ (e2 _ _ g1), E2.fr upd_same, by rw [List.length_zip, ← ra2.length, ← hlen, Nat.min_self]; exact Nat.lt_of_lt_of_le hc.1 (by decide), ?_⟩
                  rw [ez]
                  exact P S2 _ r2 _ (e1.trans e2) (k1.trans k2) (E2.write (.dT ((putKs acc.1 kk).zip vs'))) ⟨vs', rfl, putKs_len acc.1 acc.2 kk x hlen, rp'⟩
        | _ => cases hz
def eDcT (va : List Nat) (fi : ME (List D)) (a : XV → Stt → Option Stt) (gt : ME Bool) (fk fv : ME XV) : ME XV :=
  bnd fi fun ds q => match lcL va a gt (elT fk fv) ds ([], []) (wipeQ q va) with
    | none => none
    | some (acc, q2) => some (.ok (.d (.dit acc.1 acc.2)), backQ q q2 va)
section
variable {X : Cx} {W : WX} {kx vx ta ia : Expr} {fa : List Expr} {scope : Scope} {own : List (Str × Nat)} {wa : TI} {ga : TG} {da : TT} {tk tv : TE} {ja : List Nat} {pos : Pos} {sa : XV → Stt → Option Stt} {na : ME (List D)} {ba : ME Bool} {fk fv : ME XV}
theorem is_dcT (hN : X.N.Nodup) (hu : X.A.units + 1 < cLine) (pa : IsI X W ta ia wa na) (ok : BlkOk X.N X.env.scope scope own)
    (hga : ∀ (s : Shared) (H : Hp) (C : Addr) (cl : List (Str × Addr)) (fp : List Addr), IsG (X.blk s H scope (compEnvC scope cl C X.env) fp) ta ga ja sa) (hda : ∀ (s : Shared) (H : Hp) (C : Addr) (cl : List (Str × Addr)) (fp : List Addr), IsTs (X.blk s H scope (compEnvC scope cl C X.env) fp) W0 fa da ba)
    (hk : ∀ (s : Shared) (H : Hp) (C : Addr) (cl : List (Str × Addr)) (fp : List Addr), IsE (X.blk s H scope (compEnvC scope cl C X.env) fp) W0 kx tk fk)
    (hv : ∀ (s : Shared) (H : Hp) (C : Addr) (cl : List (Str × Addr)) (fp : List Addr), IsE (X.blk s H scope (compEnvC scope cl C X.env) fp) W0 vx tv fv)
    (hja : ∀ j ∈ ja, j ∈ own.map (·.2) := by decide) (hc : X.calm = true := by rfl) (hs : ∀ x, foldedSetIterable ia X.env x = pure x := by intro _; rfl) :
    IsE X W (D1 kx vx ta ia fa scope pos) (tDcT wa ga da tk tv (own.map (·.2))) (eDcT (own.map (·.2)) na sa ba fk fv) := by
  refine ⟨pe_dcT hc hN hu pa.pi ok (fun s H C cl fp => (hga s H C cl fp).pg) (fun s H C cl fp => (hda s H C cl fp).pts) (fun s H C cl fp => (hk s H C cl fp).pe) (fun s H C cl fp => (hv s H C cl fp).pe) hs, ?_⟩
  refine Tok.bind (t2 := fun (J : It) (σ : L2.St) (H1 : Hp) (Q : VK) => ∀ D, H1 D = none → loopP J ga da (tElD tk tv D) (own.map (·.2)) σ (upd H1 D (.dT [])) fun H2 => Q (.ref D) H2) pa.ok fun ds J F S H r σ q z E w hz Q P => ?_
  have hz0 : (match lcL (own.map (·.2)) sa ba (elT fk fv) ds ([], []) (wipeQ q (own.map (·.2))) with
    | none => none
    | some (acc, q2) => some ((Except.ok (XV.d (.dit acc.1 acc.2)) : Except Value XV), backQ q q2 (own.map (·.2)))) = some z := hz
  cases em : lcL (own.map (·.2)) sa ba (elT fk fv) ds ([], []) (wipeQ q (own.map (·.2))) with
  | none => rw [em] at hz0; cases hz0
  | some zz =>
    obtain ⟨accE, qE⟩ := zz
    rw [em] at hz0
    cases hz0
    intro D0 hD
    have hF := E.newF hD
    refine loopP_ok (RA := RAt X.K) (F := F) moT (hga dS (fun _ => none) 0 [] []).ok (hda dS (fun _ => none) 0 [] []).ok (tokC_elT (hk dS (fun _ => none) 0 [] []).ok (hv dS (fun _ => none) 0 [] []).ok) hja (fun j h => by cases h) w (E.add hD _) ⟨[], rfl, rfl, RepL.nil⟩ em fun S1 H1 r1 o1 e1 k1 E1 ra => ?_
    obtain ⟨us, rfl, hl, ra⟩ := ra
    obtain ⟨E2, e2⟩ := (Env.back e1 k1 E E1).settle hF
    refine P (.ref D0) _ H1 r1 (e1.trans e2) k1 E2 ?_
    show Rep X.K _ (.dit accE.1 accE.2) _
    rw [Rep]
    exact ⟨D0, us, rfl, upd_same, hl, RepL.mono e2 _ _ ra⟩
end
end Den

namespace Den
open PySem PySem.Spec PyProof.Rows L2
open Evl (Ex)
/-! ### all(xs) -/
def gAll : List D → Option D
  | [.lst ds] => (allBl ds).map fun bs => .bl (bs.all id)
  | _ => none
theorem rc_all {K : PySem.W.Frag} : RCok K (rAll K) gAll := by
  intro F S H r σ q ds z vs E rp hz Q k
  unfold gAll at hz
  split at hz
  · rename_i ds
    cases e : allBl ds with
    | none => rw [e] at hz; cases hz
    | some bs =>
      rw [e] at hz
      cases hz
      obtain ⟨v, rfl, a, us, rfl, h1, h2⟩ := one_rep (F := H) rp
      have ev := allBl_rep e h2
      subst ev
      exact ⟨a, bs, rfl, SqL.of h1, k _ S H (Ex.refl _) E rp_bl⟩
  · cases hz
section
variable {X : Cx} {W : WX} {e : Expr} {t : TE} {f : ME XV} {pos p : Pos}
theorem is_all (hm : X.mg "all" = none) (h : IsE X W e t f) (hc : X.calm = true := by rfl) (hg : Gl X "all" := by rfl) (he : starEach [e] X.env = (false, eval e X.env) :: starEach [] X.env := by rfl) : IsE X W (.Call (.Name "all" p) [e] [] pos) (tCB (rAll X.K) (tCons t tNil)) (eCB gAll (aCons f aNil)) :=
  is_cb (cr_all hc) rc_all hg hm (by decide +kernel) (is_acons h is_anil he) (he := he)
end
end Den

namespace Den
open PySem PySem.Spec PyProof.Rows L2
open Evl (Ex)
/-! ### a def that may raise, called where it does not -/
def callK (n : Nat) (G : Fn) (xs : List XV) (q : Stt) : Option (Rs XV) := if xs.length = n then (match G xs q.w with
  | some (.ok x, w') => some (.ok x, { q with w := w' })
  | _ => none) else none
def eCallK (n : Nat) (G : Fn) (fa : ME (List XV)) : ME XV := bnd fa fun xs q => callK n G xs q
theorem passX {X : Cx} : Passes (L2.CX X.prog X.w) X E0 := fun _ _ _ _ _ _ _ ⟨_, _, _, _, _, _, _, _, _, _, _, _, h⟩ => h.elim
section
variable {X : Cx} {W : WX} {e : Expr} {es : List Expr} {ta : TA} {fa : ME (List XV)} {pos p : Pos}
theorem is_callK {name : Str} {k n : Nat} {G : Fn} (d : DefX X.prog X.w X.K X.mg X.base name k n G) (hr : Room k X.A) (ha : IsA X W (e :: es) ta fa) (hg : Gl X name := by rfl) (hdb : (name == ("__debug__" : Str)) = false := by decide)
    (he : starEach (e :: es) X.env = (false, eval e X.env) :: starEach es X.env := by rfl) (hpl : (backTo pos (starEach es X.env)).any (·.1) = false := by rfl) : IsE X W (.Call (.Name name p) (e :: es) [] pos) (tCall (spF X.K n G) [] E0 ta) (eCallK n G fa) := by
  obtain ⟨f, fd, ps, hm, hk, hb, F⟩ := d.ex
  refine ⟨pe_call F hr hg hm hk hb .nil passX ha.pa hdb he hpl, ?_⟩
  refine Tok.bind (t2 := fun xs σ H Q => spF X.K n G (xs ++ []) H Q E0) ha.ok fun x v F S H r σ q z E rx hz Q P => ?_
  have hz' : callK n G x q = some z := hz
  unfold callK at hz'
  by_cases hn : x.length = n
  · rw [if_pos hn] at hz'
    show spF X.K n G (v ++ []) H Q E0
    rw [List.append_nil]
    refine ⟨by rw [← rx.length]; exact hn, ?_⟩
    cases eg : G x q.w with
    | none => rw [eg] at hz'; cases hz'
    | some y =>
      obtain ⟨y, w'⟩ := y
      rw [eg] at hz'
      cases y with
      | error c => cases hz'
      | ok y =>
        cases hz'
        obtain ⟨F', _, E', back⟩ := E.hide
        exact ⟨F', S, r, x, q.w, _, E', rx, eg, fun v S1 H1 r1 ex k E1 rp => P v S1 H1 r1 ex k (back S1 H1 r1 w' ex k E1) rp⟩
  · rw [if_neg hn] at hz'
    cases hz'
end
/-! ### {"k": "v", ..} -/
def trC (tb : List (Str × Str)) : List (TE × TE) := tb.map fun kv => (tC (.str kv.1), tC (.str kv.2))
def kvC (tb : List (Str × Str)) : List (Key × V) := tb.map fun kv => (.inr kv.1, V.str kv.2)
theorem pairs_c : ∀ (tb : List (Str × Str)) (σ : L2.St) (H : Hp) (Q : List (V × V) → Hp → Prop), Q ((kvC tb).map fun kv => (kV kv.1, kv.2)) H → tPairs (trC tb) σ H Q
  | [], _, _, _, h => h
  | (k, v) :: tb, σ, H, Q, h => pairs_c tb σ H (fun ps H3 => Q ((.str k, .str v) :: ps) H3) h
theorem rep_c {K : PySem.W.Frag} {S : Hp} : ∀ tb : List (Str × Str), RepL K S (tb.map fun kv => .str kv.2) ((kvC tb).map (·.2))
  | [] => RepL.nil
  | (k, v) :: tb => RepL.cons rp_str (rep_c tb)
theorem zip_c : ∀ tb : List (Str × Str), kvC tb = (tb.map fun kv => (.inr kv.1 : Key)).zip ((kvC tb).map (·.2))
  | [] => rfl
  | (k, v) :: tb => congrArg (((.inr k : Key), V.str v) :: ·) (zip_c tb)
def eDisp (tb : List (Str × Str)) : ME XV := ret (.d (.dic (tb.map fun kv => .inr kv.1) (tb.map fun kv => .str kv.2)))
section
variable {X : Cx} {W : WX} {pos : Pos} {keys : List (Option Expr)} {values : List Expr}
theorem is_disp (tb : List (Str × Str)) (h : PPs X pos keys values (trC tb)) (hm : mergeK [] (kvC tb) = kvC tb := by rfl) (hall : keys.all (·.isSome) = true := by rfl) (hl : keys.length = values.length := by rfl) (h0 : keys ≠ [] := by simp) (h15 : keys.length ≤ 15 := by decide) (htb : tb.length ≤ 15 := by decide) :
    IsE X W (.Dict keys values pos) (tDisp (trC tb)) (eDisp tb) := by
  refine ⟨pe_disp h hall hl h0 h15, fun F S H r σ q z E hz Q P => ?_⟩
  cases hz
  intro p hp
  refine pairs_c tb σ _ _ ⟨upd_same, kvC tb, rfl, by unfold kvC; rw [List.length_map]; exact htb, ?_⟩
  rw [hm]
  have E1 := ((E.add hp (.dK [])).write (.dK (kvC tb)))
  obtain ⟨E2, ex⟩ := E1.settle (E.newF hp)
  refine P (.ref p) _ _ r ex (Rle.refl _) E2 ?_
  show Rep X.K _ (.dic _ _) _
  rw [Rep]
  exact ⟨p, (kvC tb).map (·.2), rfl, by rw [upd_same, ← zip_c], by simp, RepL.mono ex _ _ (rep_c tb)⟩
end
/-! ### range(i, j, c) -/
def rngD (i c : Int) (n : Nat) : List D := (List.range n).map fun k : Nat => .int (i + (k : Int) * c)
def rng3 : List XV → Option (List D)
  | [.d (.int i), .d (.int j), .d (.int c)] => if c ≠ 0 ∧ c.natAbs < 1073741824 ∧ Builtin.Range.small i j c = true ∧ 0 ≤ Builtin.Range.rangeSize i j c then some (rngD i c (Builtin.Range.rangeSize i j c).toNat) else none
  | _ => none
theorem wlk_c {K : PySem.W.Frag} {S : Hp} {i c : Int} {n : Nat} : Wlk K S (Itc i c n) (rngD i c n) := by
  refine ⟨fun F S2 H r σ q k d e E hd => ?_, fun F S2 H r σ q k e E hk => ?_⟩
  · unfold rngD at hd
    rw [List.getElem?_map] at hd
    by_cases h : k < n
    · rw [List.getElem?_range h] at hd
      cases hd
      refine ⟨h, fun x H' y => ?_⟩
      obtain ⟨e1, e2⟩ := y
      subst e1 e2
      exact ⟨S2, Ex.refl _, E, rp_int⟩
    · rw [List.getElem?_eq_none (by simp; omega)] at hd
      cases hd
  · have hk' : n ≤ k := by simpa [rngD] using hk
    exact hk'
section
variable {X : Cx} {W : WX} {tg a b c : Expr} {ta : TA} {fa : ME (List XV)} {pos p : Pos}
theorem is_rng3 (ha : IsA X W [a, b, c] ta fa) (hg : Gl X "range") (hm : X.mg "range" = none) (hs : starEach [a, b, c] X.env = (false, eval a X.env) :: starEach [b, c] X.env := by rfl) (hpl : (backTo pos (starEach [b, c] X.env)).any (·.1) = false := by rfl) :
    IsI X W tg (.Call (.Name "range" p) [a, b, c] [] pos) (iRng3 ta) (bnd fa fun xs => lft (rng3 xs)) := by
  refine ⟨pi_range3 hg hm ha.pa hs hpl, ?_⟩
  refine Tok.bind (t2 := fun vs σ H R => ∃ (i j c : Int) (n : Nat), vs = [V.int i, .int j, .int c] ∧ RgC i j c n ∧ R (Itc i c n) H) ha.ok fun x v F S H r σ q z E rx hz Q P => ?_
  unfold lft rng3 at hz
  split at hz
  · cases hz
  · rename_i y hy
    split at hy
    · rename_i i j c
      obtain ⟨hc, e1⟩ := ifs hy
      subst e1
      cases hz
      obtain ⟨v1, t1, rfl, k1, v2, t2, rfl, k2, v3, t3, rfl, k3, k4⟩ := rx
      have e2 : t3 = [] := k4
      subst e2
      rw [xr_int k1, xr_int k2, xr_int k3]
      exact ⟨i, j, c, (Builtin.Range.rangeSize i j c).toNat, rfl, ⟨hc.1, hc.2.1, hc.2.2.1, (Int.toNat_of_nonneg hc.2.2.2).symm⟩, P _ S H r (Ex.refl _) (Rle.refl _) E wlk_c⟩
    · cases hy
end
end Den

namespace Den
open PySem PySem.Spec PyProof.Rows L2
open Evl (Ex)
/-! ### list(d), d's keys tuples -/
def keyDD : Key → D
  | .inl i => .int i
  | .inr s => .str s
def keysTup (ks : List (List Key)) : List D := ks.map fun k => .tup (k.map keyDD)
def lKeys (f : ME XV) : ME (List D) := bnd f fun x => lft (match x with | .d (.dit ks _) => some (keysTup ks) | _ => none)
def rKeysT : List V → Hp → VK → Prop := fun xs H Q => ∃ d kvs, xs = [V.ref d] ∧ Rd H d (.dT kvs) ∧ ∀ p bs, H p = none → IsKeys H kvs bs → Q (.ref p) (upd H p (.lst (bs.map V.ref)))
theorem rep_keys {K : PySem.W.Frag} {S : Hp} : ∀ k : List Key, RepL K S (k.map keyDD) (k.map kV)
  | [] => RepL.nil
  | .inl i :: k => RepL.cons rp_int (rep_keys k)
  | .inr s :: k => RepL.cons rp_str (rep_keys k)
section
variable {X : Cx} {W : WX} {K : PySem.W.Frag} {e e1 e2 : Expr} {t t1 t2 : TE} {f f1 f2 : ME XV} {pos p : Pos} {F S H : Hp} {r : List Addr} {σ : L2.St} {q : Stt}
theorem keys_rep : ∀ {ks : List (List Key)} {us : List V} {bs : List Addr} {S : Hp}, ks.length = us.length → Env K F S H r σ q → IsKeys H (ks.zip us) bs → ∃ S', Ex S S' ∧ Env K F S' H r σ q ∧ RepL K S' (keysTup ks) (bs.map V.ref)
  | [], us, bs, S, hl, E, h => by
    have hb : bs = [] := by
      cases us with
      | nil =>
        cases bs with
        | nil => rfl
        | cons b bs => cases h
      | cons u us => simp at hl
    subst hb
    exact ⟨S, Ex.refl _, E, RepL.nil⟩
  | k :: ks, [], bs, S, hl, E, h => by simp at hl
  | k :: ks, u :: us, bs, S, hl, E, h => by
    cases bs with
    | nil => cases h
    | cons b bs =>
      rw [List.zip_cons_cons] at h
      unfold IsKeys at h
      cases h with
      | cons h1 h2 =>
        obtain ⟨E1, x1⟩ := E.takeT h1
        obtain ⟨S2, x2, E2, rp⟩ := keys_rep (ks := ks) (us := us) (bs := bs) (by simpa using hl) E1 h2
        refine ⟨S2, x1.trans x2, E2, ?_⟩
        show RepL K S2 (.tup (k.map keyDD) :: keysTup ks) (.ref b :: bs.map V.ref)
        refine RepL.cons ?_ rp
        rw [Rep]
        exact ⟨b, k.map kV, rfl, x2 _ _ upd_same, rep_keys k⟩
theorem is_keys (h : IsE X W e t f) (hm : X.mg "list" = none) (hc : X.calm = true := by rfl) (hg : Gl X "list" := by rfl) (he : starEach [e] X.env = (false, eval e X.env) :: starEach [] X.env := by rfl) :
    IsL X W (.Call (.Name "list" p) [e] [] pos) (tCB rKeysT (tCons t tNil)) (lKeys f) := by
  refine ⟨pe_callTy (call_list_dT hc) hg hm (by decide +kernel) (pa_cons h.pe pa_nil he) (by decide) (by decide) he (by rfl), ?_⟩
  refine TokL.bind (t2 := fun x σ H Q => rKeysT [x] H Q) h.ok fun x v F S H r σ q z E rx hz Q P => ?_
  cases x with
  | h n => cases hz
  | d x =>
    cases x with
    | dit ks ds =>
      cases hz
      have rx' : Rep X.K S (.dit ks ds) v := rx
      rw [Rep] at rx'
      obtain ⟨a, vs, rfl, h1, h2, h3⟩ := rx'
      refine ⟨a, ks.zip vs, rfl, .inl (E.sub _ _ h1), fun p bs hp hk => ?_⟩
      obtain ⟨S', ex, E', rp⟩ := keys_rep (by rw [h2]; exact h3.length) E hk
      exact P p (bs.map V.ref) S' _ r ex (Rle.refl _) (E'.newF hp) (E'.add hp (.lst (bs.map V.ref))) rp
    | _ => cases hz
/-! ### len(d), d's keys tuples -/
def gLenT : List D → Option D
  | [.dit ks ds] => some (.int ks.length)
  | _ => none
theorem rc_lenT : RCok K rLenT gLenT := by
  intro F S H r σ q ds z vs E rp hz Q k
  unfold gLenT at hz
  split at hz
  · rename_i ks ds'
    cases hz
    obtain ⟨v, rfl, h⟩ := one_rep (F := H) rp
    obtain ⟨a, us, rfl, h1, h2, h3⟩ := h
    refine ⟨a, ks.zip us, rfl, h1, ?_⟩
    have : (ks.zip us).length = ks.length := by rw [List.length_zip, ← h3.length, ← h2, Nat.min_self]
    rw [this]
    exact k _ S H (Ex.refl _) E rp_int
  · cases hz
theorem is_lenT (hm : X.mg "len" = none) (h : IsE X W e t f) (hg : Gl X "len" := by rfl) (he : starEach [e] X.env = (false, eval e X.env) :: starEach [] X.env := by rfl) : IsE X W (.Call (.Name "len" p) [e] [] pos) (tCB rLenT (tCons t tNil)) (eCB gLenT (aCons f aNil)) :=
  is_cb call_len_dT rc_lenT hg hm (by decide +kernel) (is_acons h is_anil he) (he := he)
theorem is_lenTV (i : Nat) {y : Str} {p p2 : Pos} (hm : X.mg "len" = none) (hg : Gl X "len" := by rfl) (hN : X.N[i]? = some y := by rfl) (hvs : Vis X.env.scope y := by first | exact Or.inl rfl | exact Or.inr (Or.inl rfl) | exact Or.inr (Or.inr rfl)) (hd : (y == ("__debug__" : Str)) = false := by decide)
    (hcd : (y == ("__classdict__" : Str)) = false := by decide) (he0 : starEach [.Name y p2] X.env = (false, eval (.Name y p2) X.env) :: starEach [] X.env := by rfl) : IsE X W (.Call (.Name "len" p) [.Name y p2] [] pos) (tCB rLenT (tCons (tVar i) tNil)) (eCBV gLenT i) :=
  is_cbV i call_len_dT rc_lenT hg hm (by decide +kernel) hN hvs hd hcd (he0 := he0)
/-! ### x in l, l of data of any depth -/
def anyD (d : PyData) : PyData → Bool
  | .list es => es.any fun z => PyData.eqv z d
  | _ => false
def gInD (neg : Bool) (x y : D) : Option D := match deepD x y, toPy x, toPy y with
  | some _, some d, some (.list es) => some (.bl (if neg then !anyD d (.list es) else anyD d (.list es)))
  | _, _, _ => none
theorem inD_of {S H : Hp} (E : Ex S H) {neg : Bool} {x y z : D} {vx vy : V} (h : gInD neg x y = some z) (rx : RepH K S H x vx) (ry : RepH K S H y vy) : ∃ d es, Dp K H vx d ∧ Dp K H vy (.list es) ∧ SeqAt.shaped d = true ∧ SeqAt.shaped (.list es) = true ∧ z = .bl (if neg then !(es.any fun z => PyData.eqv z d) else es.any fun z => PyData.eqv z d) := by
  unfold gInD at h
  cases e0 : deepD x y with
  | none => rw [e0] at h; cases h
  | some b =>
    cases e1 : toPy x with
    | none => rw [e0, e1] at h; cases h
    | some d =>
      cases e2 : toPy y with
      | none => rw [e0, e1, e2] at h; cases h
      | some e =>
        rw [e0, e1, e2] at h
        cases e with
        | list es =>
          cases h
          unfold deepD at e0
          rw [e1, e2] at e0
          obtain ⟨h1, _⟩ := ifs e0
          exact ⟨d, es, dpH_of E e1 rx, dpH_of E e2 ry, h1.1, h1.2, rfl⟩
        | _ => cases h
theorem r2_inD : R2ok K (rInD K) (gInD false) := by
  intro F S H r σ q x y z vx vy E rx ry hz Q k
  obtain ⟨d, es, h1, h2, h3, h4, rfl⟩ := inD_of E.sub hz rx ry
  exact ⟨d, es, h1, h2, h3, h4, k _ S H (Ex.refl _) E rp_bl⟩
theorem r2_notInD : R2ok K (rNotInD K) (gInD true) := by
  intro F S H r σ q x y z vx vy E rx ry hz Q k
  obtain ⟨d, es, h1, h2, h3, h4, rfl⟩ := inD_of E.sub hz rx ry
  exact ⟨d, es, h1, h2, h3, h4, k _ S H (Ex.refl _) E rp_bl⟩
/-! ### a comprehension within one -/
theorem u65 {A : Around} {k : Nat} (hr : Room k A) : A.units + 65 < cLine := by
  have := hr.un
  omega
theorem look_map {g : Str → NameKind → NameKind} : ∀ (l : List (Str × NameKind)) (x : Str), (l.map fun p => (p.1, g p.1 p.2)).lookup x = (l.lookup x).map (g x)
  | [], _ => rfl
  | (n, k) :: l, x => by
    show List.lookup x ((n, g n k) :: l.map fun p => (p.1, g p.1 p.2)) = (List.lookup x ((n, k) :: l)).map (g x)
    by_cases h : x = n
    · subst h
      simp [List.lookup]
    · have hb : (x == n) = false := beq_eq_false_iff_ne.mpr h
      simp only [List.lookup, hb]
      exact look_map l x
theorem blkOk_rel {N : List Str} {s0 scope : Scope} {own : List (Str × Nat)} {env : PySem.Env} (h : BlkOk N s0 scope own) : BlkOk N (relabel s0 env) scope own := by
  refine ⟨h.kind, h.uniq, h.ix, fun y hy e => ?_, h.own⟩
  have hm : ∀ x, (relabel s0 env).names.lookup x = (s0.names.lookup x).map fun k => if (k == .free && env.scope.kind == .function && env.kindOf x == some .cell) then .cell else k := fun x => by
    rw [← look_map (g := fun n k => if (k == .free && env.scope.kind == .function && env.kindOf n == some .cell) then .cell else k)]
    show List.lookup x (s0.names.map fun (n, k) => if (k == .free && env.scope.kind == .function && env.kindOf n == some .cell) then (n, NameKind.cell) else (n, k)) = _
    congr 2
    funext p
    obtain ⟨n, k⟩ := p
    show (if _ then _ else _) = _
    by_cases c : (k == NameKind.free && env.scope.kind == .function && env.kindOf n == some NameKind.cell) = true
    · rw [if_pos c]
      show _ = (n, if _ then _ else _)
      rw [if_pos c]
    · rw [if_neg c]
      show _ = (n, if _ then _ else _)
      rw [if_neg c]
  rw [hm]
  rcases h.free y hy e with h1 | h1
  · rw [h1]
    exact .inl rfl
  · rw [h1]
    show (some (if _ then NameKind.cell else NameKind.free)) = some .cell ∨ (some (if _ then NameKind.cell else NameKind.free)) = some .free
    split
    · exact .inl rfl
    · exact .inr rfl
/-! ### l[::-1] -/
def eRevL (f : ME XV) : ME XV := bnd f fun x => lft (match x with | .d (.lst ds) => some (.d (.lst ds.reverse)) | _ => none)
theorem is_revL {k : Nat} {p1 p2 p3 : Pos} (h : IsE X W e t f) : IsE X W (.Subscript e (.Slice none none (some (.UnaryOp .USub (.Constant (.int 1) k p1) p2)) p3) pos) (tRevL X.K t) (eRevL f) := by
  refine ⟨pe_revL h.pe, Tok.bind (t2 := fun (x : V) (σ : L2.St) (H : Hp) (Q : VK) => ∃ (a : Addr) (xs : List V), x = V.ref a ∧ SqL X.K H a xs ∧ ∀ p, H p = none → Q (V.ref p) (upd H p (.lst xs.reverse))) h.ok fun x v F S H r σ q z E rx hz Q P => ?_⟩
  cases x with
  | h n => cases hz
  | d x =>
    cases x with
    | lst ds =>
      cases hz
      have rx' : Rep X.K S (.lst ds) v := rx
      rw [Rep] at rx'
      obtain ⟨a, vs, rfl, h1, h2⟩ := rx'
      refine ⟨a, vs, rfl, SqL.of (E.sub _ _ h1), fun p hp => ?_⟩
      obtain ⟨S2, ex, E2, rp⟩ := new_lst E hp (RepL.rev h2)
      exact P _ S2 _ r ex (Rle.refl _) E2 rp
    | _ => cases hz
end
end Den

namespace Den
open PySem PySem.Spec PyProof.Rows L2
open Evl (Ex)
structure Bl (mg : Str → Option Value) : Prop where
  abs_ : mg "abs" = none
  all_ : mg "all" = none
  any_ : mg "any" = none
  bool_ : mg "bool" = none
  enumerate_ : mg "enumerate" = none
  int_ : mg "int" = none
  isinstance_ : mg "isinstance" = none
  len_ : mg "len" = none
  list_ : mg "list" = none
  max_ : mg "max" = none
  min_ : mg "min" = none
  range_ : mg "range" = none
  set_ : mg "set" = none
  sorted_ : mg "sorted" = none
  str_ : mg "str" = none
  tuple_ : mg "tuple" = none
  type_ : mg "type" = none
  zip_ : mg "zip" = none
structure Cl where
  Course_ : Addr
  KINDS_BEFORE_ : Addr
def tb_KINDS_BEFORE : List (Str × D) := [("read", .str "request"), ("reply", .str "read"), ("ack", .str "write")]
structure KdAll (K : PySem.W.Frag) (mg : Str → Option Value) (w : World) (C : Cl) : Prop where
  KINDS_BEFORE_ : KdOk K w C.KINDS_BEFORE_ tb_KINDS_BEFORE
  KINDS_BEFORE_m : mg "KINDS_BEFORE" = some (.ref C.KINDS_BEFORE_)
structure ClOk (K : PySem.W.Frag) (mg : Str → Option Value) (C : Cl) : Prop where
  at_Course : mg "Course" = some (.ref C.Course_)
  cls_Course : Cls K C.Course_
  nf_Course_earlier : NoAttr K C.Course_ "earlier"
  nf_Course_listed : NoAttr K C.Course_ "listed"
  nf_Course_places : NoAttr K C.Course_ "places"
  nf_Course_row_count : NoAttr K C.Course_ "row_count"
  nf_Course_setup : NoAttr K C.Course_ "setup"
  nf_Course_updates : NoAttr K C.Course_ "updates"
def top (i : Nat) : Stmt := PySem.Challenge.pw_rowsahead_k05_logs.main.body.getD i (.Pass ⟨0, 0, 0, 0⟩)
def clsBody : Stmt → List Stmt
  | .ClassDef _ _ _ b _ _ _ _ _ _ _ => b
  | _ => []
abbrev s_is_tuple : Stmt := top 1
abbrev s_users : Stmt := top 3
abbrev s_uses : Stmt := top 4
abbrev s_is_used : Stmt := top 5
abbrev s_stays : Stmt := top 6
abbrev s_stays_of_row : Stmt := top 7
abbrev s_events : Stmt := top 10
abbrev s_events_of_batch : Stmt := top 11
abbrev s_handovers : Stmt := top 12
abbrev s_is_like_an_event : Stmt := top 14
abbrev s_earlier_uses : Stmt := top 15
abbrev s_audit : Stmt := top 17
abbrev s_is_orderly : Stmt := top 18
abbrev s_law_cell : Stmt := top 20
abbrev s_law_draws : Stmt := top 21
abbrev s_law_stream : Stmt := top 22
abbrev s_law_next : Stmt := top 23
abbrev s_law_same : Stmt := top 24
abbrev s_law_problem : Stmt := top 25
abbrev s_law_part : Stmt := top 26
abbrev s_law_looked : Stmt := top 27
abbrev s_law_users : Stmt := top 28
abbrev s_law_uses : Stmt := top 29
abbrev s_law_stays : Stmt := top 30
abbrev s_law_events : Stmt := top 31
abbrev s_law_is_cause : Stmt := top 32
abbrev s_law_page : Stmt := top 33
abbrev s_law_known : Stmt := top 34
abbrev s_law_mixed : Stmt := top 35
abbrev s_law_length : Stmt := top 36
abbrev s_law : Stmt := top 37
abbrev s_Course__init : Stmt := (clsBody (top 13)).getD 0 (.Pass ⟨0, 0, 0, 0⟩)
abbrev s_Coursehas : Stmt := (clsBody (top 13)).getD 1 (.Pass ⟨0, 0, 0, 0⟩)
abbrev s_Coursecauses_of : Stmt := (clsBody (top 13)).getD 2 (.Pass ⟨0, 0, 0, 0⟩)
abbrev s_Course_named_causes : Stmt := (clsBody (top 13)).getD 3 (.Pass ⟨0, 0, 0, 0⟩)
abbrev s_Course_before_request : Stmt := (clsBody (top 13)).getD 4 (.Pass ⟨0, 0, 0, 0⟩)
abbrev s_Course_before_value : Stmt := (clsBody (top 13)).getD 5 (.Pass ⟨0, 0, 0, 0⟩)
abbrev s_Course_before_compute : Stmt := (clsBody (top 13)).getD 6 (.Pass ⟨0, 0, 0, 0⟩)
abbrev s_Course_updates_until : Stmt := (clsBody (top 13)).getD 7 (.Pass ⟨0, 0, 0, 0⟩)
abbrev s_Course_updates_of_row : Stmt := (clsBody (top 13)).getD 8 (.Pass ⟨0, 0, 0, 0⟩)
/-! ### is_tuple -/
theorem sc_is_tuple : FnScope ["value", "fewest", "most"] ["value", "fewest", "most"] (defScope s_is_tuple) := ⟨rfl, rfl, rfl, by decide +kernel, rfl, by decide +kernel, by decide +kernel⟩
def g_is_tuple : MS :=
  (sRet (bnd (tOf (eOp gIsT (eCB gType (aCons (eVar 0) aNil)) (eC (.ty "tuple")))) fun b => if b then (eChain (gC fun i j => decide (i ≤ j)) (gC fun i j => decide (i ≤ j)) (eVar 1) (eCB gLen (aCons (eVar 0) aNil)) (eVar 2)) else ret (.d (.bl false))))
def G_is_tuple : Fn := fnG 3 (g_is_tuple)
theorem d_is_tuple {P : Program} {w : World} {K : PySem.W.Frag} {mg : Str → Option Value} {base : Heap} {fA : Addr} {fd : FuncData} (B : Bl mg)  (F : Fun K "is_tuple" "is_tuple" s_is_tuple fA fd) (hm : mg "is_tuple" = some (.ref fA)) (b : Binds K fd ["value", "fewest", "most"] []) : DefOk P w K mg base "is_tuple" 1 3 G_is_tuple := by
  refine def_ok F hm b sc_is_tuple rfl fun cdv A outer s H E hr => ?_
  unfold g_is_tuple
  exact ⟨_, (is_bone (is_ret (is_eand (is_cmp op_isTyB r2_isT (is_type B.type_ (is_v 0)) (is_ty (by rfl) B.tuple_ (by decide +kernel)) (nomark _)) (is_eand1 (is_chain op_le r2_C op_le r2_C (is_v 1) (is_len B.len_ (is_v 0)) (is_v 2))))))⟩
/-! ### users -/
theorem sc_users : FnScope ["problem", "setup", "row", "batch", "trainers", "samples", "found", "index", "sample"] ["problem", "setup", "row", "batch"] (defScope s_users) := ⟨rfl, rfl, rfl, by decide +kernel, rfl, by decide +kernel, by decide +kernel⟩
def g_users : MS :=
  (sSeq (sAsg (eIx (eVar 1) (eC (.int 0))) (gSet 4))
  (sSeq (sAsg (eIx (eIx (eVar 0) (eC (.int 1))) (eVar 3)) (gSet 5))
  (sSeq (sAsg (eL (lLc [7, 8] (iEn (eVar 5)) (gTupD 2 (gsCons (gSet 7) (gsCons (gSet 8) gsNil))) (tOf (eOp (gIn false) (eVar 2) (eIx (eVar 8) (eC (.int 0))))) (eOp gMod (eVar 7) (eVar 4)))) (gSet 6))
  (sRet (eCB gTuple (aCons (eL (lSortSet (eVar 6))) aNil))))))
def G_users : Fn := fnG 9 (g_users)
theorem d_users {P : Program} {w : World} {K : PySem.W.Frag} {mg : Str → Option Value} {base : Heap} {fA : Addr} {fd : FuncData} (B : Bl mg)  (F : Fun K "users" "users" s_users fA fd) (hm : mg "users" = some (.ref fA)) (b : Binds K fd ["problem", "setup", "row", "batch"] []) : DefOk P w K mg base "users" 1 4 G_users := by
  refine def_ok F hm b sc_users rfl fun cdv A outer s H E hr => ?_
  unfold g_users
  exact ⟨_, (is_bcons (is_set 4 sc_users.nd (is_ix (hu_of hr) (is_v 1) is_int))
      (is_bcons (is_set 5 sc_users.nd (is_ix (hu_of hr) (is_ix (hu_of hr) (is_v 0) is_int) (is_v 3)))
      (is_bcons (is_setLcD (i := 6) (own := [("index", 7), ("sample", 8)]) sc_users.nd (is_enum B.enumerate_ (is_v 5)) (blkOk_by (own := [("index", 7), ("sample", 8)]) (N := ["problem", "setup", "row", "batch", "trainers", "samples", "found", "index", "sample"]) (sc := defScope s_users) (by decide +kernel)) (fun _ _ _ _ _ => isG_t (is_gtup (is_gscons (is_gname 7 sc_users.nd) (is_gscons (is_gname 8 sc_users.nd) is_gsnil))) (by dsimp only [Cx.blk] <;> exact rfl)) (fun _ _ _ _ _ => isTs_t (is_tsone (is_tcmp op_in_seq (r2_in false) (is_v 2) (is_ix (hu_of hr) (is_v 8) is_int) (by first | exact nomark _ | rfl))) (by dsimp only [Cx.blk] <;> exact rfl)) (fun _ _ _ _ _ => isE_t (is_mod (is_v 7) (is_v 4)) (by dsimp only [Cx.blk] <;> exact rfl)))
      (is_bone (is_ret (is_tuple B.tuple_ (is_l (is_sortSet B.sorted_ B.set_ (is_v 6)))))))))⟩
/-! ### _is_used -/
theorem sc_is_used : FnScope ["row", "samples", "looked_up", "target"] ["row", "samples"] (defScope s_is_used) := ⟨rfl, rfl, rfl, by decide +kernel, rfl, by decide +kernel, by decide +kernel⟩
def g_is_used : MS :=
  (sRet (eCB gAny (aCons (eL (lLc [2, 3] (iOf (eVar 1)) (gTupD 2 (gsCons (gSet 2) (gsCons (gSet 3) gsNil))) (ret true) (eOp (gIn false) (eVar 0) (eVar 2)))) aNil)))
def G_is_used : Fn := fnG 4 (g_is_used)
theorem d_is_used {P : Program} {w : World} {K : PySem.W.Frag} {mg : Str → Option Value} {base : Heap} {fA : Addr} {fd : FuncData} (B : Bl mg)  (F : Fun K "_is_used" "_is_used" s_is_used fA fd) (hm : mg "_is_used" = some (.ref fA)) (b : Binds K fd ["row", "samples"] []) : DefOk P w K mg base "_is_used" 1 2 G_is_used := by
  refine def_ok F hm b sc_is_used rfl fun cdv A outer s H E hr => ?_
  unfold g_is_used
  exact ⟨_, (is_bone (is_ret (is_any B.any_ (is_l (is_lc (own := [("looked_up", 2), ("target", 3)]) sc_is_used.nd (is_iseq (is_v 1)) (blkOk_by (own := [("looked_up", 2), ("target", 3)]) (N := ["row", "samples", "looked_up", "target"]) (sc := defScope s_is_used) (by decide +kernel)) (fun _ _ _ _ _ => isG_t (is_gtup (is_gscons (is_gname 2 sc_is_used.nd) (is_gscons (is_gname 3 sc_is_used.nd) is_gsnil))) (by dsimp only [Cx.blk] <;> exact rfl)) (fun _ _ _ _ _ => isTs_t is_tsnil (by dsimp only [Cx.blk] <;> exact rfl)) (fun _ _ _ _ _ => isE_t (is_cmp op_in_seq (r2_in false) (is_v 0) (is_v 2) (by first | exact nomark _ | rfl)) (by dsimp only [Cx.blk] <;> exact rfl)))))))⟩
/-! ### uses -/
theorem sc_uses : FnScope ["problem", "first", "row", "batches", "t"] ["problem", "first", "row"] (defScope s_uses) := ⟨rfl, rfl, rfl, by decide +kernel, rfl, by decide +kernel, by decide +kernel⟩
def g_uses : MS :=
  (sSeq (sAsg (eIx (eVar 0) (eC (.int 1))) (gSet 3))
  (sRet (eCB gTuple (aCons (eL (lLc [4] (bnd (aCons (eVar 1) (aCons (eCB gLen (aCons (eVar 3) aNil)) aNil)) fun xs => lft (rng2 xs)) (gSet 4) (tOf (eCall 2 G_is_used (aCons (eVar 2) (aCons (eIx (eVar 3) (eVar 4)) aNil)))) (eVar 4))) aNil))))
def G_uses : Fn := fnG 5 (g_uses)
theorem d_uses {P : Program} {w : World} {K : PySem.W.Frag} {mg : Str → Option Value} {base : Heap} {fA : Addr} {fd : FuncData} (B : Bl mg) (d_is_used : DefOk P w K mg base "_is_used" 1 2 (G_is_used)) (F : Fun K "uses" "uses" s_uses fA fd) (hm : mg "uses" = some (.ref fA)) (b : Binds K fd ["problem", "first", "row"] []) : DefOk P w K mg base "uses" 2 3 G_uses := by
  refine def_ok F hm b sc_uses rfl fun cdv A outer s H E hr => ?_
  unfold g_uses
  exact ⟨_, (is_bcons (is_set 3 sc_uses.nd (is_ix (hu_of hr) (is_v 0) is_int))
      (is_bone (is_ret (is_tuple B.tuple_ (is_l (is_lc (own := [("t", 4)]) sc_uses.nd (is_rng2 (is_acons (is_v 1) (is_acons (is_len B.len_ (is_v 3)) is_anil)) (by rfl) B.range_) (blkOk_by (own := [("t", 4)]) (N := ["problem", "first", "row", "batches", "t"]) (sc := defScope s_uses) (by decide +kernel)) (fun _ _ _ _ _ => isG_t (is_gname 4 sc_uses.nd) (by dsimp only [Cx.blk] <;> exact rfl)) (fun _ _ _ _ _ => isTs_t (is_tsone (is_tval (is_callD d_is_used (hr.mono (by first | decide | exact Nat.le_refl _)) fnG_ne (is_acons (is_v 2) (is_acons (is_ix (hu_of hr) (is_v 3) (is_v 4)) is_anil))))) (by dsimp only [Cx.blk] <;> exact rfl)) (fun _ _ _ _ _ => isE_t (is_v 4) (by dsimp only [Cx.blk] <;> exact rfl))))))))⟩
/-! ### _stays_of_row -/
theorem sc_stays_of_row : FnScope ["row", "batches", "window", "found", "batch", "opened"] ["row", "batches", "window"] (defScope s_stays_of_row) := ⟨rfl, rfl, rfl, by decide +kernel, rfl, by decide +kernel, by decide +kernel⟩
abbrev lb_stays_of_row_0 : MS :=
  (sSeq (sAsg (eVar 4) (gSet 5))
  (sSeq (sIf (tAndB (tLenB 3) (tOf (eOp (gC fun i j => decide (i ≤ j)) (eVar 4) (eOp gAdd (eIx (eOpV ixD 3 (eUn gNeg (eC (.int 1)))) (eC (.int 2))) (eVar 2))))) (sAsg (eIx (eM0V gPop0 3) (eC (.int 1))) (gSet 5)) sNext)
  (sDrop (eM1V gApp 3 (eTup (aCons (eVar 0) (aCons (eVar 5) (aCons (eVar 4) aNil))))))))
def g_stays_of_row : MS :=
  (sSeq (sSetL (lLst aNil) 3)
  (sSeq (sFor (iOf (eVar 1)) (gSet 4) lb_stays_of_row_0)
  (sRet (eVar 3))))
def G_stays_of_row : Fn := fnG 6 (g_stays_of_row)
theorem d_stays_of_row {P : Program} {w : World} {K : PySem.W.Frag} {mg : Str → Option Value} {base : Heap} {fA : Addr} {fd : FuncData} (B : Bl mg)  (F : Fun K "_stays_of_row" "_stays_of_row" s_stays_of_row fA fd) (hm : mg "_stays_of_row" = some (.ref fA)) (b : Binds K fd ["row", "batches", "window"] []) : DefOk P w K mg base "_stays_of_row" 1 3 G_stays_of_row := by
  refine def_ok F hm b sc_stays_of_row rfl fun cdv A outer s H E hr => ?_
  unfold g_stays_of_row
  exact ⟨_, (is_bcons (is_setL 3 sc_stays_of_row.nd (is_lst is_anil))
      (is_bcons (is_for PassesOwn.never (is_iseq (is_v 1)) (is_gname 4 sc_stays_of_row.nd) (is_bcons (is_set 5 sc_stays_of_row.nd (is_v 4))
      (is_bcons (is_ifS (is_tw (is_wand (is_truV 3) (is_wand1 (is_tcmp op_le r2_C (is_v 4) (is_add (is_ix (hu_of hr) (is_ixV 3 (hu_of hr) (is_neg is_int)) is_int) (is_v 2)) (nomark _))))) (is_bone (is_set 5 sc_stays_of_row.nd (is_ix (hu_of hr) (is_pop0V 3) is_int))) is_bnil)
      (is_bone (is_drop (is_appV 3 (is_tup (is_acons (is_v 0) (is_acons (is_v 5) (is_acons (is_v 4) is_anil))))))))))
      (is_bone (is_ret (is_v 3)))))⟩
/-! ### stays -/
theorem sc_stays : FnScope ["problem", "setup", "first", "window", "found", "row"] ["problem", "setup", "first"] (defScope s_stays) := ⟨rfl, rfl, rfl, by decide +kernel, rfl, by decide +kernel, by decide +kernel⟩
abbrev lb_stays_0 : MS :=
  (sDrop (eM1V gExt 4 (eCall 3 G_stays_of_row (aCons (eVar 5) (aCons (eCall 3 G_uses (aCons (eVar 0) (aCons (eVar 2) (aCons (eVar 5) aNil)))) (aCons (eVar 3) aNil))))))
def g_stays : MS :=
  (sSeq (sAsg (eIx (eVar 1) (eC (.int 1))) (gSet 3))
  (sSeq (sSetL (lLst aNil) 4)
  (sSeq (sFor (bnd (aCons (eCB gLen (aCons (eIx (eVar 0) (eC (.int 0))) aNil)) aNil) fun xs => lft (rng1 xs)) (gSet 5) lb_stays_0)
  (sRet (eCBV gTuple 4)))))
def G_stays : Fn := fnG 6 (g_stays)
theorem d_stays {P : Program} {w : World} {K : PySem.W.Frag} {mg : Str → Option Value} {base : Heap} {fA : Addr} {fd : FuncData} (B : Bl mg) (d_stays_of_row : DefOk P w K mg base "_stays_of_row" 1 3 (G_stays_of_row)) (d_uses : DefOk P w K mg base "uses" 2 3 (G_uses)) (F : Fun K "stays" "stays" s_stays fA fd) (hm : mg "stays" = some (.ref fA)) (b : Binds K fd ["problem", "setup", "first"] []) : DefOk P w K mg base "stays" 3 3 G_stays := by
  refine def_ok F hm b sc_stays rfl fun cdv A outer s H E hr => ?_
  unfold g_stays
  exact ⟨_, (is_bcons (is_set 3 sc_stays.nd (is_ix (hu_of hr) (is_v 1) is_int))
      (is_bcons (is_setL 4 sc_stays.nd (is_lst is_anil))
      (is_bcons (is_for PassesOwn.never (is_rng1 (is_acons (is_len B.len_ (is_ix (hu_of hr) (is_v 0) is_int)) is_anil) (by rfl) B.range_) (is_gname 5 sc_stays.nd) (is_bone (is_drop (is_extV 4 (is_callD d_stays_of_row (hr.mono (by first | decide | exact Nat.le_refl _)) fnG_ne (is_acons (is_v 5) (is_acons (is_callD d_uses (hr.mono (by first | decide | exact Nat.le_refl _)) fnG_ne (is_acons (is_v 0) (is_acons (is_v 2) (is_acons (is_v 5) is_anil)))) (is_acons (is_v 3) is_anil))))))))
      (is_bone (is_ret (is_tupleV 4 B.tuple_))))))⟩
/-! ### _handovers -/
theorem sc_handovers : FnScope ["problem", "setup", "batch", "row_count", "row", "user"] ["problem", "setup", "batch"] (defScope s_handovers) := ⟨rfl, rfl, rfl, by decide +kernel, rfl, by decide +kernel, by decide +kernel⟩
def g_handovers : MS :=
  (sSeq (sAsg (eCB gLen (aCons (eIx (eVar 0) (eC (.int 0))) aNil)) (gSet 3))
  (sRet (eL (lLc2 [4, 5] (bnd (aCons (eVar 3) aNil) fun xs => lft (rng1 xs)) (gSet 4) (ret true) [5] (iOf (eCall 4 G_users (aCons (eVar 0) (aCons (eVar 1) (aCons (eVar 4) (aCons (eVar 2) aNil)))))) (gSet 5) (ret true) (eTup (aCons (eVar 4) (aCons (eVar 5) aNil)))))))
def G_handovers : Fn := fnG 6 (g_handovers)
theorem d_handovers {P : Program} {w : World} {K : PySem.W.Frag} {mg : Str → Option Value} {base : Heap} {fA : Addr} {fd : FuncData} (B : Bl mg) (d_users : DefOk P w K mg base "users" 1 4 (G_users)) (F : Fun K "_handovers" "_handovers" s_handovers fA fd) (hm : mg "_handovers" = some (.ref fA)) (b : Binds K fd ["problem", "setup", "batch"] []) : DefOk P w K mg base "_handovers" 2 3 G_handovers := by
  refine def_ok F hm b sc_handovers rfl fun cdv A outer s H E hr => ?_
  unfold g_handovers
  exact ⟨_, (is_bcons (is_set 3 sc_handovers.nd (is_len B.len_ (is_ix (hu_of hr) (is_v 0) is_int)))
      (is_bone (is_ret (is_l (is_lc2 (own := [("row", 4), ("user", 5)]) (vs1 := [5]) sc_handovers.nd (is_rng1 (is_acons (is_v 3) is_anil) (by rfl) B.range_) (blkOk_by (own := [("row", 4), ("user", 5)]) (N := ["problem", "setup", "batch", "row_count", "row", "user"]) (sc := defScope s_handovers) (by decide +kernel)) (fun _ _ _ _ _ => isG_t (is_gname 4 sc_handovers.nd) (by dsimp only [Cx.blk] <;> exact rfl)) (fun _ _ _ _ _ => isTs_t is_tsnil (by dsimp only [Cx.blk] <;> exact rfl)) (fun _ _ _ _ _ => isI_t (is_iseq (is_callD d_users (hr.mono (by first | decide | exact Nat.le_refl _)) fnG_ne (is_acons (is_v 0) (is_acons (is_v 1) (is_acons (is_v 4) (is_acons (is_v 2) is_anil)))))) (by dsimp only [Cx.blk] <;> exact rfl)) (fun _ _ _ _ _ => isG_t (is_gname 5 sc_handovers.nd) (by dsimp only [Cx.blk] <;> exact rfl)) (fun _ _ _ _ _ => isTs_t is_tsnil (by dsimp only [Cx.blk] <;> exact rfl)) (fun _ _ _ _ _ => isE_t (is_tup (is_acons (is_v 4) (is_acons (is_v 5) is_anil))) (by dsimp only [Cx.blk] <;> exact rfl)))))))⟩
/-! ### _events_of_batch -/
theorem sc_events_of_batch : FnScope ["problem", "setup", "known", "batch", "opening", "closing", "handed", "row", "opened", "closed", "user", "trainer"] ["problem", "setup", "known", "batch"] (defScope s_events_of_batch) := ⟨rfl, rfl, rfl, by decide +kernel, rfl, by decide +kernel, by decide +kernel⟩
def g_events_of_batch : MS :=
  (sSeq (sAsg (eL (lLc [7, 8, 9] (iOf (eVar 2)) (gTupD 3 (gsCons (gSet 7) (gsCons (gSet 8) (gsCons (gSet 9) gsNil)))) (tOf (eOp gEq (eVar 8) (eVar 3))) (eVar 7))) (gSet 4))
  (sSeq (sAsg (eL (lLc [7, 8, 9] (iOf (eVar 2)) (gTupD 3 (gsCons (gSet 7) (gsCons (gSet 8) (gsCons (gSet 9) gsNil)))) (tOf (eOp gEq (eVar 9) (eVar 3))) (eVar 7))) (gSet 5))
  (sSeq (sAsg (eCall 3 G_handovers (aCons (eVar 0) (aCons (eVar 1) (aCons (eVar 3) aNil)))) (gSet 6))
  (sRet (eOp gAdd (eOp gAdd (eOp gAdd (eOp gAdd (eOp gAdd (eOp gAdd (eOp gAdd (eL (lLc [7] (iOf (eVar 4)) (gSet 7) (ret true) (eTup (aCons (eC (.str "request")) (aCons (eVar 7) (aCons (eVar 3) aNil)))))) (eL (lLc [7] (iOf (eVar 4)) (gSet 7) (ret true) (eTup (aCons (eC (.str "read")) (aCons (eVar 7) (aCons (eVar 3) aNil))))))) (eL (lLc [7] (iOf (eVar 4)) (gSet 7) (ret true) (eTup (aCons (eC (.str "reply")) (aCons (eVar 7) (aCons (eVar 3) aNil))))))) (eL (lLc [7, 10] (iOf (eVar 6)) (gTupD 2 (gsCons (gSet 7) (gsCons (gSet 10) gsNil))) (ret true) (eTup (aCons (eC (.str "value")) (aCons (eVar 7) (aCons (eVar 3) (aCons (eVar 10) aNil)))))))) (eL (lLc [11] (bnd (aCons (eIx (eVar 1) (eC (.int 0))) aNil) fun xs => lft (rng1 xs)) (gSet 11) (ret true) (eTup (aCons (eC (.str "compute")) (aCons (eVar 11) (aCons (eVar 3) aNil))))))) (eL (lLc [7, 10] (iOf (eVar 6)) (gTupD 2 (gsCons (gSet 7) (gsCons (gSet 10) gsNil))) (ret true) (eTup (aCons (eC (.str "update")) (aCons (eVar 7) (aCons (eVar 3) (aCons (eVar 10) aNil)))))))) (eL (lLc [7] (iOf (eVar 5)) (gSet 7) (ret true) (eTup (aCons (eC (.str "write")) (aCons (eVar 7) (aCons (eVar 3) aNil))))))) (eL (lLc [7] (iOf (eVar 5)) (gSet 7) (ret true) (eTup (aCons (eC (.str "ack")) (aCons (eVar 7) (aCons (eVar 3) aNil)))))))))))
def G_events_of_batch : Fn := fnG 12 (g_events_of_batch)
theorem d_events_of_batch {P : Program} {w : World} {K : PySem.W.Frag} {mg : Str → Option Value} {base : Heap} {fA : Addr} {fd : FuncData} (B : Bl mg) (d_handovers : DefOk P w K mg base "_handovers" 2 3 (G_handovers)) (F : Fun K "_events_of_batch" "_events_of_batch" s_events_of_batch fA fd) (hm : mg "_events_of_batch" = some (.ref fA)) (b : Binds K fd ["problem", "setup", "known", "batch"] []) : DefOk P w K mg base "_events_of_batch" 3 4 G_events_of_batch := by
  refine def_ok F hm b sc_events_of_batch rfl fun cdv A outer s H E hr => ?_
  unfold g_events_of_batch
  exact ⟨_, (is_bcons (is_setLcD (i := 4) (own := [("row", 7), ("opened", 8), ("closed", 9)]) sc_events_of_batch.nd (is_iseq (is_v 2)) (blkOk_by (own := [("row", 7), ("opened", 8), ("closed", 9)]) (N := ["problem", "setup", "known", "batch", "opening", "closing", "handed", "row", "opened", "closed", "user", "trainer"]) (sc := defScope s_events_of_batch) (by decide +kernel)) (fun _ _ _ _ _ => isG_t (is_gtup (is_gscons (is_gname 7 sc_events_of_batch.nd) (is_gscons (is_gname 8 sc_events_of_batch.nd) (is_gscons (is_gname 9 sc_events_of_batch.nd) is_gsnil)))) (by dsimp only [Cx.blk] <;> exact rfl)) (fun _ _ _ _ _ => isTs_t (is_tsone (is_tcmp (op_eqX hr.units) r2_eq (is_v 8) (is_v 3) (nomark _))) (by dsimp only [Cx.blk] <;> exact rfl)) (fun _ _ _ _ _ => isE_t (is_v 7) (by dsimp only [Cx.blk] <;> exact rfl)))
      (is_bcons (is_setLcD (i := 5) (own := [("row", 7), ("opened", 8), ("closed", 9)]) sc_events_of_batch.nd (is_iseq (is_v 2)) (blkOk_by (own := [("row", 7), ("opened", 8), ("closed", 9)]) (N := ["problem", "setup", "known", "batch", "opening", "closing", "handed", "row", "opened", "closed", "user", "trainer"]) (sc := defScope s_events_of_batch) (by decide +kernel)) (fun _ _ _ _ _ => isG_t (is_gtup (is_gscons (is_gname 7 sc_events_of_batch.nd) (is_gscons (is_gname 8 sc_events_of_batch.nd) (is_gscons (is_gname 9 sc_events_of_batch.nd) is_gsnil)))) (by dsimp only [Cx.blk] <;> exact rfl)) (fun _ _ _ _ _ => isTs_t (is_tsone (is_tcmp (op_eqX hr.units) r2_eq (is_v 9) (is_v 3) (nomark _))) (by dsimp only [Cx.blk] <;> exact rfl)) (fun _ _ _ _ _ => isE_t (is_v 7) (by dsimp only [Cx.blk] <;> exact rfl)))
      (is_bcons (is_set 6 sc_events_of_batch.nd (is_callD d_handovers (hr.mono (by first | decide | exact Nat.le_refl _)) fnG_ne (is_acons (is_v 0) (is_acons (is_v 1) (is_acons (is_v 3) is_anil)))))
      (is_bone (is_ret (is_add (is_add (is_add (is_add (is_add (is_add (is_add (is_l (is_lc (own := [("row", 7)]) sc_events_of_batch.nd (is_iseq (is_v 4)) (blkOk_by (own := [("row", 7)]) (N := ["problem", "setup", "known", "batch", "opening", "closing", "handed", "row", "opened", "closed", "user", "trainer"]) (sc := defScope s_events_of_batch) (by decide +kernel)) (fun _ _ _ _ _ => isG_t (is_gname 7 sc_events_of_batch.nd) (by dsimp only [Cx.blk] <;> exact rfl)) (fun _ _ _ _ _ => isTs_t is_tsnil (by dsimp only [Cx.blk] <;> exact rfl)) (fun _ _ _ _ _ => isE_t (is_tup (is_acons is_str (is_acons (is_v 7) (is_acons (is_v 3) is_anil)))) (by dsimp only [Cx.blk] <;> exact rfl)))) (is_l (is_lc (own := [("row", 7)]) sc_events_of_batch.nd (is_iseq (is_v 4)) (blkOk_by (own := [("row", 7)]) (N := ["problem", "setup", "known", "batch", "opening", "closing", "handed", "row", "opened", "closed", "user", "trainer"]) (sc := defScope s_events_of_batch) (by decide +kernel)) (fun _ _ _ _ _ => isG_t (is_gname 7 sc_events_of_batch.nd) (by dsimp only [Cx.blk] <;> exact rfl)) (fun _ _ _ _ _ => isTs_t is_tsnil (by dsimp only [Cx.blk] <;> exact rfl)) (fun _ _ _ _ _ => isE_t (is_tup (is_acons is_str (is_acons (is_v 7) (is_acons (is_v 3) is_anil)))) (by dsimp only [Cx.blk] <;> exact rfl))))) (is_l (is_lc (own := [("row", 7)]) sc_events_of_batch.nd (is_iseq (is_v 4)) (blkOk_by (own := [("row", 7)]) (N := ["problem", "setup", "known", "batch", "opening", "closing", "handed", "row", "opened", "closed", "user", "trainer"]) (sc := defScope s_events_of_batch) (by decide +kernel)) (fun _ _ _ _ _ => isG_t (is_gname 7 sc_events_of_batch.nd) (by dsimp only [Cx.blk] <;> exact rfl)) (fun _ _ _ _ _ => isTs_t is_tsnil (by dsimp only [Cx.blk] <;> exact rfl)) (fun _ _ _ _ _ => isE_t (is_tup (is_acons is_str (is_acons (is_v 7) (is_acons (is_v 3) is_anil)))) (by dsimp only [Cx.blk] <;> exact rfl))))) (is_l (is_lc (own := [("row", 7), ("user", 10)]) sc_events_of_batch.nd (is_iseq (is_v 6)) (blkOk_by (own := [("row", 7), ("user", 10)]) (N := ["problem", "setup", "known", "batch", "opening", "closing", "handed", "row", "opened", "closed", "user", "trainer"]) (sc := defScope s_events_of_batch) (by decide +kernel)) (fun _ _ _ _ _ => isG_t (is_gtup (is_gscons (is_gname 7 sc_events_of_batch.nd) (is_gscons (is_gname 10 sc_events_of_batch.nd) is_gsnil))) (by dsimp only [Cx.blk] <;> exact rfl)) (fun _ _ _ _ _ => isTs_t is_tsnil (by dsimp only [Cx.blk] <;> exact rfl)) (fun _ _ _ _ _ => isE_t (is_tup (is_acons is_str (is_acons (is_v 7) (is_acons (is_v 3) (is_acons (is_v 10) is_anil))))) (by dsimp only [Cx.blk] <;> exact rfl))))) (is_l (is_lc (own := [("trainer", 11)]) sc_events_of_batch.nd (is_rng1 (is_acons (is_ix (hu_of hr) (is_v 1) is_int) is_anil) (by rfl) B.range_) (blkOk_by (own := [("trainer", 11)]) (N := ["problem", "setup", "known", "batch", "opening", "closing", "handed", "row", "opened", "closed", "user", "trainer"]) (sc := defScope s_events_of_batch) (by decide +kernel)) (fun _ _ _ _ _ => isG_t (is_gname 11 sc_events_of_batch.nd) (by dsimp only [Cx.blk] <;> exact rfl)) (fun _ _ _ _ _ => isTs_t is_tsnil (by dsimp only [Cx.blk] <;> exact rfl)) (fun _ _ _ _ _ => isE_t (is_tup (is_acons is_str (is_acons (is_v 11) (is_acons (is_v 3) is_anil)))) (by dsimp only [Cx.blk] <;> exact rfl))))) (is_l (is_lc (own := [("row", 7), ("user", 10)]) sc_events_of_batch.nd (is_iseq (is_v 6)) (blkOk_by (own := [("row", 7), ("user", 10)]) (N := ["problem", "setup", "known", "batch", "opening", "closing", "handed", "row", "opened", "closed", "user", "trainer"]) (sc := defScope s_events_of_batch) (by decide +kernel)) (fun _ _ _ _ _ => isG_t (is_gtup (is_gscons (is_gname 7 sc_events_of_batch.nd) (is_gscons (is_gname 10 sc_events_of_batch.nd) is_gsnil))) (by dsimp only [Cx.blk] <;> exact rfl)) (fun _ _ _ _ _ => isTs_t is_tsnil (by dsimp only [Cx.blk] <;> exact rfl)) (fun _ _ _ _ _ => isE_t (is_tup (is_acons is_str (is_acons (is_v 7) (is_acons (is_v 3) (is_acons (is_v 10) is_anil))))) (by dsimp only [Cx.blk] <;> exact rfl))))) (is_l (is_lc (own := [("row", 7)]) sc_events_of_batch.nd (is_iseq (is_v 5)) (blkOk_by (own := [("row", 7)]) (N := ["problem", "setup", "known", "batch", "opening", "closing", "handed", "row", "opened", "closed", "user", "trainer"]) (sc := defScope s_events_of_batch) (by decide +kernel)) (fun _ _ _ _ _ => isG_t (is_gname 7 sc_events_of_batch.nd) (by dsimp only [Cx.blk] <;> exact rfl)) (fun _ _ _ _ _ => isTs_t is_tsnil (by dsimp only [Cx.blk] <;> exact rfl)) (fun _ _ _ _ _ => isE_t (is_tup (is_acons is_str (is_acons (is_v 7) (is_acons (is_v 3) is_anil)))) (by dsimp only [Cx.blk] <;> exact rfl))))) (is_l (is_lc (own := [("row", 7)]) sc_events_of_batch.nd (is_iseq (is_v 5)) (blkOk_by (own := [("row", 7)]) (N := ["problem", "setup", "known", "batch", "opening", "closing", "handed", "row", "opened", "closed", "user", "trainer"]) (sc := defScope s_events_of_batch) (by decide +kernel)) (fun _ _ _ _ _ => isG_t (is_gname 7 sc_events_of_batch.nd) (by dsimp only [Cx.blk] <;> exact rfl)) (fun _ _ _ _ _ => isTs_t is_tsnil (by dsimp only [Cx.blk] <;> exact rfl)) (fun _ _ _ _ _ => isE_t (is_tup (is_acons is_str (is_acons (is_v 7) (is_acons (is_v 3) is_anil)))) (by dsimp only [Cx.blk] <;> exact rfl))))))))))⟩
/-! ### events -/
theorem sc_events : FnScope ["problem", "setup", "first", "known", "found", "batch"] ["problem", "setup", "first"] (defScope s_events) := ⟨rfl, rfl, rfl, by decide +kernel, rfl, by decide +kernel, by decide +kernel⟩
abbrev lb_events_0 : MS :=
  (sDrop (eM1V gExt 4 (eCall 4 G_events_of_batch (aCons (eVar 0) (aCons (eVar 1) (aCons (eVar 3) (aCons (eVar 5) aNil)))))))
def g_events : MS :=
  (sSeq (sAsg (eCall 3 G_stays (aCons (eVar 0) (aCons (eVar 1) (aCons (eVar 2) aNil)))) (gSet 3))
  (sSeq (sSetL (lLst aNil) 4)
  (sSeq (sFor (bnd (aCons (eVar 2) (aCons (eCB gLen (aCons (eIx (eVar 0) (eC (.int 1))) aNil)) aNil)) fun xs => lft (rng2 xs)) (gSet 5) lb_events_0)
  (sRet (eCBV gTuple 4)))))
def G_events : Fn := fnG 6 (g_events)
theorem d_events {P : Program} {w : World} {K : PySem.W.Frag} {mg : Str → Option Value} {base : Heap} {fA : Addr} {fd : FuncData} (B : Bl mg) (d_stays : DefOk P w K mg base "stays" 3 3 (G_stays)) (d_events_of_batch : DefOk P w K mg base "_events_of_batch" 3 4 (G_events_of_batch)) (F : Fun K "events" "events" s_events fA fd) (hm : mg "events" = some (.ref fA)) (b : Binds K fd ["problem", "setup", "first"] []) : DefOk P w K mg base "events" 4 3 G_events := by
  refine def_ok F hm b sc_events rfl fun cdv A outer s H E hr => ?_
  unfold g_events
  exact ⟨_, (is_bcons (is_set 3 sc_events.nd (is_callD d_stays (hr.mono (by first | decide | exact Nat.le_refl _)) fnG_ne (is_acons (is_v 0) (is_acons (is_v 1) (is_acons (is_v 2) is_anil)))))
      (is_bcons (is_setL 4 sc_events.nd (is_lst is_anil))
      (is_bcons (is_for PassesOwn.never (is_rng2 (is_acons (is_v 2) (is_acons (is_len B.len_ (is_ix (hu_of hr) (is_v 0) is_int)) is_anil)) (by rfl) B.range_) (is_gname 5 sc_events.nd) (is_bone (is_drop (is_extV 4 (is_callD d_events_of_batch (hr.mono (by first | decide | exact Nat.le_refl _)) fnG_ne (is_acons (is_v 0) (is_acons (is_v 1) (is_acons (is_v 3) (is_acons (is_v 5) is_anil)))))))))
      (is_bone (is_ret (is_tupleV 4 B.tuple_))))))⟩
/-! ### is_like_an_event -/
theorem sc_is_like_an_event : FnScope ["value", "kind", "numbers", "number"] ["value"] (defScope s_is_like_an_event) := ⟨rfl, rfl, rfl, by decide +kernel, rfl, by decide +kernel, by decide +kernel⟩
def g_is_like_an_event : MS :=
  (sSeq (sIf (tNotB (tOf (eCall 3 G_is_tuple (aCons (eVar 0) (aCons (eC (.int 3)) (aCons (eC (.int 4)) aNil)))))) (sRet (eC (.bl false))) sNext)
  (sSeq (sStar2 (eVar 0) 1 2)
  (sRet (bnd (tOf (eOp gIsT (eCB gType (aCons (eVar 1) aNil)) (eC (.ty "str")))) fun b => if b then (eCB gAll (aCons (eL (lLc [3] (iOf (eVar 2)) (gSet 3) (ret true) (eOp gIsT (eCB gType (aCons (eVar 3) aNil)) (eC (.ty "int"))))) aNil)) else ret (.d (.bl false))))))
def G_is_like_an_event : Fn := fnG 4 (g_is_like_an_event)
theorem d_is_like_an_event {P : Program} {w : World} {K : PySem.W.Frag} {mg : Str → Option Value} {base : Heap} {fA : Addr} {fd : FuncData} (B : Bl mg) (d_is_tuple : DefOk P w K mg base "is_tuple" 1 3 (G_is_tuple)) (F : Fun K "is_like_an_event" "is_like_an_event" s_is_like_an_event fA fd) (hm : mg "is_like_an_event" = some (.ref fA)) (b : Binds K fd ["value"] []) : DefOk P w K mg base "is_like_an_event" 2 1 G_is_like_an_event := by
  refine def_ok F hm b sc_is_like_an_event rfl fun cdv A outer s H E hr => ?_
  unfold g_is_like_an_event
  exact ⟨_, (is_bcons (is_ifS (is_tnot (is_tval (is_callD d_is_tuple (hr.mono (by first | decide | exact Nat.le_refl _)) fnG_ne (is_acons (is_v 0) (is_acons is_int (is_acons is_int is_anil)))))) (is_bone (is_ret is_bl)) is_bnil)
      (is_bcons (is_star2 1 2 (by rfl) sc_is_like_an_event.nd (is_v 0))
      (is_bone (is_ret (is_eand (is_cmp op_isTyB r2_isT (is_type B.type_ (is_v 1)) (is_ty (by rfl) B.str_ (by decide +kernel)) (nomark _)) (is_eand1 (is_all B.all_ (is_l (is_lc (own := [("number", 3)]) sc_is_like_an_event.nd (is_iseq (is_v 2)) (blkOk_by (own := [("number", 3)]) (N := ["value", "kind", "numbers", "number"]) (sc := defScope s_is_like_an_event) (by decide +kernel)) (fun _ _ _ _ _ => isG_t (is_gname 3 sc_is_like_an_event.nd) (by dsimp only [Cx.blk] <;> exact rfl)) (fun _ _ _ _ _ => isTs_t is_tsnil (by dsimp only [Cx.blk] <;> exact rfl)) (fun _ _ _ _ _ => isE_t (is_cmp op_isTyB r2_isT (is_type B.type_ (is_v 3)) (is_ty (by rfl) B.int_ (by decide +kernel)) (nomark _)) (by dsimp only [Cx.blk] <;> exact rfl)))))))))))⟩
/-! ### _earlier_uses -/
theorem sc_earlier_uses : FnScope ["problem", "first", "earlier", "row", "used", "before", "batch"] ["problem", "first"] (defScope s_earlier_uses) := ⟨rfl, rfl, rfl, by decide +kernel, rfl, by decide +kernel, by decide +kernel⟩
abbrev lb_earlier_uses_0 : MS :=
  (sPutT 2 (eTup (aCons (eVar 3) (aCons (eVar 6) aNil))) (eVar 5))
abbrev lb_earlier_uses_1 : MS :=
  (sSeq (sAsg (eCall 3 G_uses (aCons (eVar 0) (aCons (eVar 1) (aCons (eVar 3) aNil)))) (gSet 4))
  (sFor (iZip (aCons (eVar 4) (aCons (eSl (eVar 4) (bnd (eC (.int 1)) fun x => lft ((toI x).map some)) (ret none)) aNil))) (gTupD 2 (gsCons (gSet 5) (gsCons (gSet 6) gsNil))) lb_earlier_uses_0))
def g_earlier_uses : MS :=
  (sSeq (sNewT 2)
  (sSeq (sFor (bnd (aCons (eCB gLen (aCons (eIx (eVar 0) (eC (.int 0))) aNil)) aNil) fun xs => lft (rng1 xs)) (gSet 3) lb_earlier_uses_1)
  (sRet (eVar 2))))
def G_earlier_uses : Fn := fnG 7 (g_earlier_uses)
theorem d_earlier_uses {P : Program} {w : World} {K : PySem.W.Frag} {mg : Str → Option Value} {base : Heap} {fA : Addr} {fd : FuncData} (B : Bl mg) (d_uses : DefOk P w K mg base "uses" 2 3 (G_uses)) (F : Fun K "_earlier_uses" "_earlier_uses" s_earlier_uses fA fd) (hm : mg "_earlier_uses" = some (.ref fA)) (b : Binds K fd ["problem", "first"] []) : DefOk P w K mg base "_earlier_uses" 3 2 G_earlier_uses := by
  refine def_ok F hm b sc_earlier_uses rfl fun cdv A outer s H E hr => ?_
  unfold g_earlier_uses
  exact ⟨_, (is_bcons (is_newT 2 sc_earlier_uses.nd)
      (is_bcons (is_for PassesOwn.never (is_rng1 (is_acons (is_len B.len_ (is_ix (hu_of hr) (is_v 0) is_int)) is_anil) (by rfl) B.range_) (is_gname 3 sc_earlier_uses.nd) (is_bcons (is_set 4 sc_earlier_uses.nd (is_callD d_uses (hr.mono (by first | decide | exact Nat.le_refl _)) fnG_ne (is_acons (is_v 0) (is_acons (is_v 1) (is_acons (is_v 3) is_anil)))))
      (is_bone (is_for PassesOwn.never (is_zip B.zip_ (is_acons (is_v 4) (is_acons (is_sl (is_v 4) (is_osome is_int) is_onone) is_anil))) (is_gtup (is_gscons (is_gname 5 sc_earlier_uses.nd) (is_gscons (is_gname 6 sc_earlier_uses.nd) is_gsnil))) (is_bone (is_putT 2 (hu_of hr) (is_tup (is_acons (is_v 3) (is_acons (is_v 6) is_anil))) (is_v 5)))))))
      (is_bone (is_ret (is_v 2)))))⟩
/-! ### Course.__init__ -/
theorem sc_Course__init : FnScope ["self", "problem", "setup", "first", "place", "event"] ["self", "problem", "setup", "first"] (defScope s_Course__init) := ⟨rfl, rfl, rfl, by decide +kernel, rfl, by decide +kernel, by decide +kernel⟩
def g_Course__init (C : Cl) : MS :=
  (sSeq (sFldW C.Course_ "setup" (eVar 0) (eVar 2))
  (sSeq (sFldW C.Course_ "row_count" (eVar 0) (eCB gLen (aCons (eIx (eVar 1) (eC (.int 0))) aNil)))
  (sSeq (sFldW C.Course_ "listed" (eVar 0) (eCall 3 G_events (aCons (eVar 1) (aCons (eVar 2) (aCons (eVar 3) aNil)))))
  (sSeq (sFldW C.Course_ "places" (eVar 0) (eDcT [4, 5] (iEn (eFld C.Course_ "listed" (eVar 0))) (gTupD 2 (gsCons (gSet 4) (gsCons (gSet 5) gsNil))) (ret true) (eVar 5) (eVar 4)))
  (sSeq (sFldW C.Course_ "updates" (eVar 0) (eL (lLc [5] (iOf (eFld C.Course_ "listed" (eVar 0))) (gSet 5) (tOf (eOp gEq (eIx (eVar 5) (eC (.int 0))) (eC (.str "update")))) (eVar 5))))
  (sFldW C.Course_ "earlier" (eVar 0) (eCall 2 G_earlier_uses (aCons (eVar 1) (aCons (eVar 3) aNil)))))))))
def G_Course__init (C : Cl) : Fn := fnG 6 (g_Course__init C)
theorem d_Course__init {P : Program} {w : World} {K : PySem.W.Frag} {mg : Str → Option Value} {base : Heap} {fA : Addr} {fd : FuncData} (B : Bl mg) {C : Cl} (CO : ClOk K mg C) (d_events : DefOk P w K mg base "events" 4 3 (G_events)) (d_earlier_uses : DefOk P w K mg base "_earlier_uses" 3 2 (G_earlier_uses)) (F : Fun K "__init__" "Course.__init__" s_Course__init fA fd) (hm : Mk K C.Course_ fA) (b : Binds K fd ["self", "problem", "setup", "first"] []) : InitOk P w K mg base "Course" 5 4 C.Course_ (G_Course__init C) := by
  refine init_ok CO.at_Course hm F b sc_Course__init rfl fun cdv A outer s H E hr => ?_
  unfold g_Course__init
  exact ⟨_, (is_bcons (is_setFld (is_v 0) (is_v 2) CO.cls_Course CO.nf_Course_setup)
      (is_bcons (is_setFld (is_v 0) (is_len B.len_ (is_ix (hu_of hr) (is_v 1) is_int)) CO.cls_Course CO.nf_Course_row_count)
      (is_bcons (is_setFld (is_v 0) (is_callD d_events (hr.mono (by first | decide | exact Nat.le_refl _)) fnG_ne (is_acons (is_v 1) (is_acons (is_v 2) (is_acons (is_v 3) is_anil)))) CO.cls_Course CO.nf_Course_listed)
      (is_bcons (is_setFld (is_v 0) (is_dcT (own := [("place", 4), ("event", 5)]) sc_Course__init.nd (hu_of hr) (is_enum B.enumerate_ (is_fld (is_v 0) CO.cls_Course CO.nf_Course_listed)) (blkOk_by (own := [("place", 4), ("event", 5)]) (N := ["self", "problem", "setup", "first", "place", "event"]) (sc := defScope s_Course__init) (by decide +kernel)) (fun _ _ _ _ _ => isG_t (is_gtup (is_gscons (is_gname 4 sc_Course__init.nd) (is_gscons (is_gname 5 sc_Course__init.nd) is_gsnil))) (by dsimp only [Cx.blk] <;> exact rfl)) (fun _ _ _ _ _ => isTs_t is_tsnil (by dsimp only [Cx.blk] <;> exact rfl)) (fun _ _ _ _ _ => isE_t (is_v 5) (by dsimp only [Cx.blk] <;> exact rfl)) (fun _ _ _ _ _ => isE_t (is_v 4) (by dsimp only [Cx.blk] <;> exact rfl))) CO.cls_Course CO.nf_Course_places)
      (is_bcons (is_setFld (is_v 0) (is_l (is_lc (own := [("event", 5)]) sc_Course__init.nd (is_iseq (is_fld (is_v 0) CO.cls_Course CO.nf_Course_listed)) (blkOk_by (own := [("event", 5)]) (N := ["self", "problem", "setup", "first", "place", "event"]) (sc := defScope s_Course__init) (by decide +kernel)) (fun _ _ _ _ _ => isG_t (is_gname 5 sc_Course__init.nd) (by dsimp only [Cx.blk] <;> exact rfl)) (fun _ _ _ _ _ => isTs_t (is_tsone (is_tcmp (op_eqX hr.units) r2_eq (is_ix (hu_of hr) (is_v 5) is_int) is_str (nomark _))) (by dsimp only [Cx.blk] <;> exact rfl)) (fun _ _ _ _ _ => isE_t (is_v 5) (by dsimp only [Cx.blk] <;> exact rfl)))) CO.cls_Course CO.nf_Course_updates)
      (is_bone (is_setFld (is_v 0) (is_callD d_earlier_uses (hr.mono (by first | decide | exact Nat.le_refl _)) fnG_ne (is_acons (is_v 1) (is_acons (is_v 3) is_anil))) CO.cls_Course CO.nf_Course_earlier)))))))⟩
/-! ### Course.has -/
theorem sc_Coursehas : FnScope ["self", "value"] ["self", "value"] (defScope s_Coursehas) := ⟨rfl, rfl, rfl, by decide +kernel, rfl, by decide +kernel, by decide +kernel⟩
def g_Coursehas (C : Cl) : MS :=
  (sRet (bnd (tOf (eCall 1 G_is_like_an_event (aCons (eVar 1) aNil))) fun b => if b then (eOp (gDin false) (eVar 1) (eFld C.Course_ "places" (eVar 0))) else ret (.d (.bl false))))
def G_Coursehas (C : Cl) : Fn := fnG 2 (g_Coursehas C)
theorem d_Coursehas {P : Program} {w : World} {K : PySem.W.Frag} {mg : Str → Option Value} {base : Heap} {fA : Addr} {fd : FuncData} (B : Bl mg) {C : Cl} (CO : ClOk K mg C) (d_is_like_an_event : DefOk P w K mg base "is_like_an_event" 2 1 (G_is_like_an_event)) (F : Fun K "has" "Course.has" s_Coursehas fA fd) (hm : Meth K C.Course_ "has" fA) (b : Binds K fd ["self", "value"] []) : MetOk P w K mg base "has" 3 2 C.Course_ (G_Coursehas C) := by
  refine met_ok CO.cls_Course hm F b sc_Coursehas rfl fun cdv A outer s H E hr => ?_
  unfold g_Coursehas
  exact ⟨_, (is_bone (is_ret (is_eand (is_callD d_is_like_an_event (hr.mono (by first | decide | exact Nat.le_refl _)) fnG_ne (is_acons (is_v 1) is_anil)) (is_eand1 (is_cmp (op_din (hu_of hr)) (r2_din false) (is_v 1) (is_fld (is_v 0) CO.cls_Course CO.nf_Course_places) (by first | exact nomark _ | rfl))))))⟩
/-! ### Course._updates_until -/
theorem sc_Course_updates_until : FnScope ["self", "batch", "update"] ["self", "batch"] (defScope s_Course_updates_until) := ⟨rfl, rfl, rfl, by decide +kernel, rfl, by decide +kernel, by decide +kernel⟩
def g_Course_updates_until (C : Cl) : MS :=
  (sRet (eLW (lLc [2] (iOf (eFld C.Course_ "updates" (eVar 0))) (gSet 2) (tOf (eOp (gC fun i j => decide (i ≤ j)) (eIx (eVar 2) (eC (.int 2))) (eVar 1))) (eVar 2))))
def G_Course_updates_until (C : Cl) : Fn := fnG 3 (g_Course_updates_until C)
theorem d_Course_updates_until {P : Program} {w : World} {K : PySem.W.Frag} {mg : Str → Option Value} {base : Heap} {fA : Addr} {fd : FuncData} (B : Bl mg) {C : Cl} (CO : ClOk K mg C)  (F : Fun K "_updates_until" "Course._updates_until" s_Course_updates_until fA fd) (hm : Meth K C.Course_ "_updates_until" fA) (b : Binds K fd ["self", "batch"] []) : MetOk P w K mg base "_updates_until" 1 2 C.Course_ (G_Course_updates_until C) := by
  refine met_ok CO.cls_Course hm F b sc_Course_updates_until rfl fun cdv A outer s H E hr => ?_
  unfold g_Course_updates_until
  exact ⟨_, (is_bone (is_ret (is_lw (is_lc (own := [("update", 2)]) sc_Course_updates_until.nd (is_iseq (is_fld (is_v 0) CO.cls_Course CO.nf_Course_updates)) (blkOk_by (own := [("update", 2)]) (N := ["self", "batch", "update"]) (sc := defScope s_Course_updates_until) (by decide +kernel)) (fun _ _ _ _ _ => isG_t (is_gname 2 sc_Course_updates_until.nd) (by dsimp only [Cx.blk] <;> exact rfl)) (fun _ _ _ _ _ => isTs_t (is_tsone (is_tcmp op_le r2_C (is_ix (hu_of hr) (is_v 2) is_int) (is_v 1) (nomark _))) (by dsimp only [Cx.blk] <;> exact rfl)) (fun _ _ _ _ _ => isE_t (is_v 2) (by dsimp only [Cx.blk] <;> exact rfl))))))⟩
/-! ### Course._before_request -/
theorem sc_Course_before_request : FnScope ["self", "row", "batch", "window", "named"] ["self", "row", "batch"] (defScope s_Course_before_request) := ⟨rfl, rfl, rfl, by decide +kernel, rfl, by decide +kernel, by decide +kernel⟩
def g_Course_before_request (C : Cl) : MS :=
  (sSeq (sAsg (eIx (eFld C.Course_ "setup" (eVar 0)) (eC (.int 1))) (gSet 3))
  (sSeq (sSetL (lTake (eMeth 2 C.Course_ "_updates_until" (G_Course_updates_until C) (eVar 0) (aCons (eOp gMinus (eVar 2) (eVar 3)) aNil))) 4)
  (sSeq (sIf (tOf (eOp (gDin false) (eTup (aCons (eVar 1) (aCons (eVar 2) aNil))) (eFld C.Course_ "earlier" (eVar 0)))) (sDrop (eM1V gApp 4 (eTup (aCons (eC (.str "ack")) (aCons (eVar 1) (aCons (eIx (eFld C.Course_ "earlier" (eVar 0)) (eTup (aCons (eVar 1) (aCons (eVar 2) aNil)))) aNil)))))) sNext)
  (sRet (eVar 4)))))
def G_Course_before_request (C : Cl) : Fn := fnG 5 (g_Course_before_request C)
theorem d_Course_before_request {P : Program} {w : World} {K : PySem.W.Frag} {mg : Str → Option Value} {base : Heap} {fA : Addr} {fd : FuncData} (B : Bl mg) {C : Cl} (CO : ClOk K mg C) (d_Course_updates_until : MetOk P w K mg base "_updates_until" 1 2 C.Course_ ((G_Course_updates_until C))) (F : Fun K "_before_request" "Course._before_request" s_Course_before_request fA fd) (hm : Meth K C.Course_ "_before_request" fA) (b : Binds K fd ["self", "row", "batch"] []) : MetOk P w K mg base "_before_request" 2 3 C.Course_ (G_Course_before_request C) := by
  refine met_ok CO.cls_Course hm F b sc_Course_before_request rfl fun cdv A outer s H E hr => ?_
  unfold g_Course_before_request
  exact ⟨_, (is_bcons (is_set 3 sc_Course_before_request.nd (is_ix (hu_of hr) (is_fld (is_v 0) CO.cls_Course CO.nf_Course_setup) is_int))
      (is_bcons (is_setL 4 sc_Course_before_request.nd (is_take (is_meth d_Course_updates_until (hr.mono (by first | decide | exact Nat.le_refl _)) (is_v 0) (is_acons (is_sub (is_v 2) (is_v 3)) is_anil))))
      (is_bcons (is_ifS (is_tcmp (op_din (hu_of hr)) (r2_din false) (is_tup (is_acons (is_v 1) (is_acons (is_v 2) is_anil))) (is_fld (is_v 0) CO.cls_Course CO.nf_Course_earlier) (by first | exact nomark _ | rfl)) (is_bone (is_drop (is_appV 4 (is_tup (is_acons is_str (is_acons (is_v 1) (is_acons (is_ix (hu_of hr) (is_fld (is_v 0) CO.cls_Course CO.nf_Course_earlier) (is_tup (is_acons (is_v 1) (is_acons (is_v 2) is_anil)))) is_anil))))))) is_bnil)
      (is_bone (is_ret (is_v 4))))))⟩
/-! ### Course._updates_of_row -/
theorem sc_Course_updates_of_row : FnScope ["self", "row", "batch", "trainers", "trainer"] ["self", "row", "batch"] (defScope s_Course_updates_of_row) := ⟨rfl, rfl, rfl, by decide +kernel, rfl, by decide +kernel, by decide +kernel⟩
def g_Course_updates_of_row (C : Cl) : MS :=
  (sSeq (sAsg (eIx (eFld C.Course_ "setup" (eVar 0)) (eC (.int 0))) (gSet 3))
  (sRet (eL (lLc [4] (bnd (aCons (eVar 3) aNil) fun xs => lft (rng1 xs)) (gSet 4) (ret true) (eTup (aCons (eC (.str "update")) (aCons (eVar 1) (aCons (eVar 2) (aCons (eVar 4) aNil)))))))))
def G_Course_updates_of_row (C : Cl) : Fn := fnG 5 (g_Course_updates_of_row C)
theorem d_Course_updates_of_row {P : Program} {w : World} {K : PySem.W.Frag} {mg : Str → Option Value} {base : Heap} {fA : Addr} {fd : FuncData} (B : Bl mg) {C : Cl} (CO : ClOk K mg C)  (F : Fun K "_updates_of_row" "Course._updates_of_row" s_Course_updates_of_row fA fd) (hm : Meth K C.Course_ "_updates_of_row" fA) (b : Binds K fd ["self", "row", "batch"] []) : MetOk P w K mg base "_updates_of_row" 1 3 C.Course_ (G_Course_updates_of_row C) := by
  refine met_ok CO.cls_Course hm F b sc_Course_updates_of_row rfl fun cdv A outer s H E hr => ?_
  unfold g_Course_updates_of_row
  exact ⟨_, (is_bcons (is_set 3 sc_Course_updates_of_row.nd (is_ix (hu_of hr) (is_fld (is_v 0) CO.cls_Course CO.nf_Course_setup) is_int))
      (is_bone (is_ret (is_l (is_lc (own := [("trainer", 4)]) sc_Course_updates_of_row.nd (is_rng1 (is_acons (is_v 3) is_anil) (by rfl) B.range_) (blkOk_by (own := [("trainer", 4)]) (N := ["self", "row", "batch", "trainers", "trainer"]) (sc := defScope s_Course_updates_of_row) (by decide +kernel)) (fun _ _ _ _ _ => isG_t (is_gname 4 sc_Course_updates_of_row.nd) (by dsimp only [Cx.blk] <;> exact rfl)) (fun _ _ _ _ _ => isTs_t is_tsnil (by dsimp only [Cx.blk] <;> exact rfl)) (fun _ _ _ _ _ => isE_t (is_tup (is_acons is_str (is_acons (is_v 1) (is_acons (is_v 2) (is_acons (is_v 4) is_anil))))) (by dsimp only [Cx.blk] <;> exact rfl)))))))⟩
/-! ### Course._before_value -/
theorem sc_Course_before_value : FnScope ["self", "row", "batch", "window", "earlier"] ["self", "row", "batch"] (defScope s_Course_before_value) := ⟨rfl, rfl, rfl, by decide +kernel, rfl, by decide +kernel, by decide +kernel⟩
def g_Course_before_value (C : Cl) : MS :=
  (sSeq (sAsg (eIx (eFld C.Course_ "setup" (eVar 0)) (eC (.int 1))) (gSet 3))
  (sSeq (sAsg (eGet1 (eFld C.Course_ "earlier" (eVar 0)) (eTup (aCons (eVar 1) (aCons (eVar 2) aNil)))) (gSet 4))
  (sSeq (sIf (tAndB (tOf (eOp gNotN (eVar 4) (eC .non))) (tOf (eOp (gC fun i j => decide (i ≤ j)) (eVar 2) (eOp gAdd (eVar 4) (eVar 3))))) (sRet (eMeth 3 C.Course_ "_updates_of_row" (G_Course_updates_of_row C) (eVar 0) (aCons (eVar 1) (aCons (eVar 4) aNil)))) sNext)
  (sRet (eL (lLst (aCons (eTup (aCons (eC (.str "reply")) (aCons (eVar 1) (aCons (eVar 2) aNil)))) aNil)))))))
def G_Course_before_value (C : Cl) : Fn := fnG 5 (g_Course_before_value C)
theorem d_Course_before_value {P : Program} {w : World} {K : PySem.W.Frag} {mg : Str → Option Value} {base : Heap} {fA : Addr} {fd : FuncData} (B : Bl mg) {C : Cl} (CO : ClOk K mg C) (d_Course_updates_of_row : MetOk P w K mg base "_updates_of_row" 1 3 C.Course_ ((G_Course_updates_of_row C))) (F : Fun K "_before_value" "Course._before_value" s_Course_before_value fA fd) (hm : Meth K C.Course_ "_before_value" fA) (b : Binds K fd ["self", "row", "batch"] []) : MetOk P w K mg base "_before_value" 2 3 C.Course_ (G_Course_before_value C) := by
  refine met_ok CO.cls_Course hm F b sc_Course_before_value rfl fun cdv A outer s H E hr => ?_
  unfold g_Course_before_value
  exact ⟨_, (is_bcons (is_set 3 sc_Course_before_value.nd (is_ix (hu_of hr) (is_fld (is_v 0) CO.cls_Course CO.nf_Course_setup) is_int))
      (is_bcons (is_set 4 sc_Course_before_value.nd (is_get1 (hu_of hr) (is_fld (is_v 0) CO.cls_Course CO.nf_Course_earlier) (is_tup (is_acons (is_v 1) (is_acons (is_v 2) is_anil))) ⟨rfl, rfl, rfl, rfl⟩))
      (is_bcons (is_ifS (is_tw (is_wand (is_tcmp op_notN r2_notN (is_v 4) is_non (nomark _)) (is_wand1 (is_tcmp op_le r2_C (is_v 2) (is_add (is_v 4) (is_v 3)) (nomark _))))) (is_bone (is_ret (is_meth d_Course_updates_of_row (hr.mono (by first | decide | exact Nat.le_refl _)) (is_v 0) (is_acons (is_v 1) (is_acons (is_v 4) is_anil))))) is_bnil)
      (is_bone (is_ret (is_l (is_lst (is_acons (is_tup (is_acons is_str (is_acons (is_v 1) (is_acons (is_v 2) is_anil)))) is_anil))))))))⟩
/-! ### Course._before_compute -/
theorem sc_Course_before_compute : FnScope ["self", "trainer", "batch", "lead", "named", "row"] ["self", "trainer", "batch"] (defScope s_Course_before_compute) := ⟨rfl, rfl, rfl, by decide +kernel, rfl, by decide +kernel, by decide +kernel⟩
def g_Course_before_compute (C : Cl) : MS :=
  (sSeq (sAsg (eIx (eFld C.Course_ "setup" (eVar 0)) (eC (.int 2))) (gSet 3))
  (sSeq (sSetL (lTake (eMeth 2 C.Course_ "_updates_until" (G_Course_updates_until C) (eVar 0) (aCons (eOp gMinus (eVar 2) (eVar 3)) aNil))) 4)
  (sSeq (sDrop (eM1V gApp 4 (eTup (aCons (eC (.str "compute")) (aCons (eVar 1) (aCons (eOp gMinus (eVar 2) (eC (.int 1))) aNil))))))
  (sSeq (sDrop (eM1V gExt 4 (eL (lLc [5] (bnd (aCons (eFld C.Course_ "row_count" (eVar 0)) aNil) fun xs => lft (rng1 xs)) (gSet 5) (ret true) (eTup (aCons (eC (.str "value")) (aCons (eVar 5) (aCons (eVar 2) (aCons (eVar 1) aNil)))))))))
  (sRet (eVar 4))))))
def G_Course_before_compute (C : Cl) : Fn := fnG 6 (g_Course_before_compute C)
theorem d_Course_before_compute {P : Program} {w : World} {K : PySem.W.Frag} {mg : Str → Option Value} {base : Heap} {fA : Addr} {fd : FuncData} (B : Bl mg) {C : Cl} (CO : ClOk K mg C) (d_Course_updates_until : MetOk P w K mg base "_updates_until" 1 2 C.Course_ ((G_Course_updates_until C))) (F : Fun K "_before_compute" "Course._before_compute" s_Course_before_compute fA fd) (hm : Meth K C.Course_ "_before_compute" fA) (b : Binds K fd ["self", "trainer", "batch"] []) : MetOk P w K mg base "_before_compute" 2 3 C.Course_ (G_Course_before_compute C) := by
  refine met_ok CO.cls_Course hm F b sc_Course_before_compute rfl fun cdv A outer s H E hr => ?_
  unfold g_Course_before_compute
  exact ⟨_, (is_bcons (is_set 3 sc_Course_before_compute.nd (is_ix (hu_of hr) (is_fld (is_v 0) CO.cls_Course CO.nf_Course_setup) is_int))
      (is_bcons (is_setL 4 sc_Course_before_compute.nd (is_take (is_meth d_Course_updates_until (hr.mono (by first | decide | exact Nat.le_refl _)) (is_v 0) (is_acons (is_sub (is_v 2) (is_v 3)) is_anil))))
      (is_bcons (is_drop (is_appV 4 (is_tup (is_acons is_str (is_acons (is_v 1) (is_acons (is_sub (is_v 2) is_int) is_anil))))))
      (is_bcons (is_drop (is_extV 4 (is_l (is_lc (own := [("row", 5)]) sc_Course_before_compute.nd (is_rng1 (is_acons (is_fld (is_v 0) CO.cls_Course CO.nf_Course_row_count) is_anil) (by rfl) B.range_) (blkOk_by (own := [("row", 5)]) (N := ["self", "trainer", "batch", "lead", "named", "row"]) (sc := defScope s_Course_before_compute) (by decide +kernel)) (fun _ _ _ _ _ => isG_t (is_gname 5 sc_Course_before_compute.nd) (by dsimp only [Cx.blk] <;> exact rfl)) (fun _ _ _ _ _ => isTs_t is_tsnil (by dsimp only [Cx.blk] <;> exact rfl)) (fun _ _ _ _ _ => isE_t (is_tup (is_acons is_str (is_acons (is_v 5) (is_acons (is_v 2) (is_acons (is_v 1) is_anil))))) (by dsimp only [Cx.blk] <;> exact rfl))))))
      (is_bone (is_ret (is_v 4)))))))⟩
/-! ### Course._named_causes -/
theorem sc_Course_named_causes : FnScope ["self", "event", "kind", "number", "batch"] ["self", "event"] (defScope s_Course_named_causes) := ⟨rfl, rfl, rfl, by decide +kernel, rfl, by decide +kernel, by decide +kernel⟩
def g_Course_named_causes (C : Cl) : MS :=
  (sSeq (sAsg (eSl (eVar 1) (ret none) (bnd (eC (.int 3)) fun x => lft ((toI x).map some))) (gTupD 3 (gsCons (gSet 2) (gsCons (gSet 3) (gsCons (gSet 4) gsNil)))))
  (sSeq (sIf (tOf (eOp gEq (eVar 2) (eC (.str "request")))) (sRet (eMeth 3 C.Course_ "_before_request" (G_Course_before_request C) (eVar 0) (aCons (eVar 3) (aCons (eVar 4) aNil)))) sNext)
  (sSeq (sIf (tOf (eOp gEq (eVar 2) (eC (.str "value")))) (sRet (eMeth 3 C.Course_ "_before_value" (G_Course_before_value C) (eVar 0) (aCons (eVar 3) (aCons (eVar 4) aNil)))) sNext)
  (sSeq (sIf (tOf (eOp gEq (eVar 2) (eC (.str "compute")))) (sRet (eMeth 3 C.Course_ "_before_compute" (G_Course_before_compute C) (eVar 0) (aCons (eVar 3) (aCons (eVar 4) aNil)))) sNext)
  (sSeq (sIf (tOf (eOp gEq (eVar 2) (eC (.str "update")))) (sRet (eL (lLst (aCons (eTup (aCons (eC (.str "compute")) (aCons (eIx (eVar 1) (eC (.int 3))) (aCons (eVar 4) aNil)))) aNil)))) sNext)
  (sSeq (sIf (tOf (eOp gEq (eVar 2) (eC (.str "write")))) (sRet (eMeth 3 C.Course_ "_updates_of_row" (G_Course_updates_of_row C) (eVar 0) (aCons (eVar 3) (aCons (eVar 4) aNil)))) sNext)
  (sRet (eL (lLst (aCons (eTup (aCons (eKd tb_KINDS_BEFORE (eVar 2)) (aCons (eVar 3) (aCons (eVar 4) aNil)))) aNil))))))))))
def G_Course_named_causes (C : Cl) : Fn := fnG 5 (g_Course_named_causes C)
theorem d_Course_named_causes {P : Program} {w : World} {K : PySem.W.Frag} {mg : Str → Option Value} {base : Heap} {fA : Addr} {fd : FuncData} (B : Bl mg) {C : Cl} (CO : ClOk K mg C) (KA : KdAll K mg w C) (d_Course_before_request : MetOk P w K mg base "_before_request" 2 3 C.Course_ ((G_Course_before_request C))) (d_Course_before_value : MetOk P w K mg base "_before_value" 2 3 C.Course_ ((G_Course_before_value C))) (d_Course_before_compute : MetOk P w K mg base "_before_compute" 2 3 C.Course_ ((G_Course_before_compute C))) (d_Course_updates_of_row : MetOk P w K mg base "_updates_of_row" 1 3 C.Course_ ((G_Course_updates_of_row C))) (F : Fun K "_named_causes" "Course._named_causes" s_Course_named_causes fA fd) (hm : Meth K C.Course_ "_named_causes" fA) (b : Binds K fd ["self", "event"] []) : MetOk P w K mg base "_named_causes" 3 2 C.Course_ (G_Course_named_causes C) := by
  refine met_ok CO.cls_Course hm F b sc_Course_named_causes rfl fun cdv A outer s H E hr => ?_
  unfold g_Course_named_causes
  exact ⟨_, (is_bcons (is_asg (is_sl (is_v 1) is_onone (is_osome is_int)) (is_gtup (is_gscons (is_gname 2 sc_Course_named_causes.nd) (is_gscons (is_gname 3 sc_Course_named_causes.nd) (is_gscons (is_gname 4 sc_Course_named_causes.nd) is_gsnil)))))
      (is_bcons (is_ifS (is_tcmp (op_eqX hr.units) r2_eq (is_v 2) is_str (nomark _)) (is_bone (is_ret (is_meth d_Course_before_request (hr.mono (by first | decide | exact Nat.le_refl _)) (is_v 0) (is_acons (is_v 3) (is_acons (is_v 4) is_anil))))) is_bnil)
      (is_bcons (is_ifS (is_tcmp (op_eqX hr.units) r2_eq (is_v 2) is_str (nomark _)) (is_bone (is_ret (is_meth d_Course_before_value (hr.mono (by first | decide | exact Nat.le_refl _)) (is_v 0) (is_acons (is_v 3) (is_acons (is_v 4) is_anil))))) is_bnil)
      (is_bcons (is_ifS (is_tcmp (op_eqX hr.units) r2_eq (is_v 2) is_str (nomark _)) (is_bone (is_ret (is_meth d_Course_before_compute (hr.mono (by first | decide | exact Nat.le_refl _)) (is_v 0) (is_acons (is_v 3) (is_acons (is_v 4) is_anil))))) is_bnil)
      (is_bcons (is_ifS (is_tcmp (op_eqX hr.units) r2_eq (is_v 2) is_str (nomark _)) (is_bone (is_ret (is_l (is_lst (is_acons (is_tup (is_acons is_str (is_acons (is_ix (hu_of hr) (is_v 1) is_int) (is_acons (is_v 4) is_anil)))) is_anil))))) is_bnil)
      (is_bcons (is_ifS (is_tcmp (op_eqX hr.units) r2_eq (is_v 2) is_str (nomark _)) (is_bone (is_ret (is_meth d_Course_updates_of_row (hr.mono (by first | decide | exact Nat.le_refl _)) (is_v 0) (is_acons (is_v 3) (is_acons (is_v 4) is_anil))))) is_bnil)
      (is_bone (is_ret (is_l (is_lst (is_acons (is_tup (is_acons (is_kd KA.KINDS_BEFORE_ KA.KINDS_BEFORE_m (is_v 2)) (is_acons (is_v 3) (is_acons (is_v 4) is_anil)))) is_anil)))))))))))⟩
/-! ### Course.causes_of -/
theorem sc_Coursecauses_of : FnScope ["self", "event", "named", "places", "cause", "place"] ["self", "event"] (defScope s_Coursecauses_of) := ⟨rfl, rfl, rfl, by decide +kernel, rfl, by decide +kernel, by decide +kernel⟩
def g_Coursecauses_of (C : Cl) : MS :=
  (sSeq (sAsg (eMeth 2 C.Course_ "_named_causes" (G_Course_named_causes C) (eVar 0) (aCons (eVar 1) aNil)) (gSet 2))
  (sSeq (sAsg (eL (lCB gSorted (aCons (eL (lLc [4] (iOf (eVar 2)) (gSet 4) (tOf (eOp (gDin false) (eVar 4) (eFld C.Course_ "places" (eVar 0)))) (eIx (eFld C.Course_ "places" (eVar 0)) (eVar 4)))) aNil))) (gSet 3))
  (sRet (eCB gTuple (aCons (eL (lLc [5] (iOf (eVar 3)) (gSet 5) (ret true) (eIx (eFld C.Course_ "listed" (eVar 0)) (eVar 5)))) aNil)))))
def G_Coursecauses_of (C : Cl) : Fn := fnG 6 (g_Coursecauses_of C)
theorem d_Coursecauses_of {P : Program} {w : World} {K : PySem.W.Frag} {mg : Str → Option Value} {base : Heap} {fA : Addr} {fd : FuncData} (B : Bl mg) {C : Cl} (CO : ClOk K mg C) (d_Course_named_causes : MetOk P w K mg base "_named_causes" 3 2 C.Course_ ((G_Course_named_causes C))) (F : Fun K "causes_of" "Course.causes_of" s_Coursecauses_of fA fd) (hm : Meth K C.Course_ "causes_of" fA) (b : Binds K fd ["self", "event"] []) : MetOk P w K mg base "causes_of" 4 2 C.Course_ (G_Coursecauses_of C) := by
  refine met_ok CO.cls_Course hm F b sc_Coursecauses_of rfl fun cdv A outer s H E hr => ?_
  unfold g_Coursecauses_of
  exact ⟨_, (is_bcons (is_set 2 sc_Coursecauses_of.nd (is_meth d_Course_named_causes (hr.mono (by first | decide | exact Nat.le_refl _)) (is_v 0) (is_acons (is_v 1) is_anil)))
      (is_bcons (is_set 3 sc_Coursecauses_of.nd (is_l (is_sorted B.sorted_ (is_l (is_lc (own := [("cause", 4)]) sc_Coursecauses_of.nd (is_iseq (is_v 2)) (blkOk_by (own := [("cause", 4)]) (N := ["self", "event", "named", "places", "cause", "place"]) (sc := defScope s_Coursecauses_of) (by decide +kernel)) (fun _ _ _ _ _ => isG_t (is_gname 4 sc_Coursecauses_of.nd) (by dsimp only [Cx.blk] <;> exact rfl)) (fun _ _ _ _ _ => isTs_t (is_tsone (is_tcmp (op_din (hu_of hr)) (r2_din false) (is_v 4) (is_fld (is_v 0) CO.cls_Course CO.nf_Course_places) (by first | exact nomark _ | rfl))) (by dsimp only [Cx.blk] <;> exact rfl)) (fun _ _ _ _ _ => isE_t (is_ix (hu_of hr) (is_fld (is_v 0) CO.cls_Course CO.nf_Course_places) (is_v 4)) (by dsimp only [Cx.blk] <;> exact rfl)))))))
      (is_bone (is_ret (is_tuple B.tuple_ (is_l (is_lc (own := [("place", 5)]) sc_Coursecauses_of.nd (is_iseq (is_v 3)) (blkOk_by (own := [("place", 5)]) (N := ["self", "event", "named", "places", "cause", "place"]) (sc := defScope s_Coursecauses_of) (by decide +kernel)) (fun _ _ _ _ _ => isG_t (is_gname 5 sc_Coursecauses_of.nd) (by dsimp only [Cx.blk] <;> exact rfl)) (fun _ _ _ _ _ => isTs_t is_tsnil (by dsimp only [Cx.blk] <;> exact rfl)) (fun _ _ _ _ _ => isE_t (is_ix (hu_of hr) (is_fld (is_v 0) CO.cls_Course CO.nf_Course_listed) (is_v 5)) (by dsimp only [Cx.blk] <;> exact rfl)))))))))⟩
/-! ### audit -/
theorem sc_audit : FnScope ["problem", "setup", "first", "log", "course", "seen", "event", "cause"] ["problem", "setup", "first", "log"] (defScope s_audit) := ⟨rfl, rfl, rfl, by decide +kernel, rfl, by decide +kernel, by decide +kernel⟩
abbrev lb_audit_0 (C : Cl) : MS :=
  (sSeq (sIf (tOrB (tNotB (tOf (eMeth 2 C.Course_ "has" (G_Coursehas C) (eVar 4) (aCons (eVar 6) aNil)))) (tOf (eOpB (gDin false) (eVar 6) 5))) (fun q => some (.bk q)) sNext)
  (sSeq (sIf (tNotB (tOf (eCB gAll (aCons (eL (lLc [7] (iOf (eMeth 2 C.Course_ "causes_of" (G_Coursecauses_of C) (eVar 4) (aCons (eVar 6) aNil))) (gSet 7) (ret true) (eOpB (gDin false) (eVar 7) 5))) aNil)))) (fun q => some (.bk q)) sNext)
  (sPutT 5 (eVar 6) (eC (.bl true)))))
def g_audit (C : Cl) : MS :=
  (sSeq (sAsg (eNewI 4 C.Course_ (G_Course__init C) (aCons (eVar 0) (aCons (eVar 1) (aCons (eVar 2) aNil)))) (gSet 4))
  (sSeq (sNewT 5)
  (sSeq (sFor (iOf (eVar 3)) (gSet 6) (lb_audit_0 C))
  (sRet (eCBV gLenT 5)))))
def G_audit (C : Cl) : Fn := fnG 8 (g_audit C)
theorem d_audit {P : Program} {w : World} {K : PySem.W.Frag} {mg : Str → Option Value} {base : Heap} {fA : Addr} {fd : FuncData} (B : Bl mg) {C : Cl} (CO : ClOk K mg C) (d_Course__init : InitOk P w K mg base "Course" 5 4 C.Course_ ((G_Course__init C))) (d_Coursehas : MetOk P w K mg base "has" 3 2 C.Course_ ((G_Coursehas C))) (d_Coursecauses_of : MetOk P w K mg base "causes_of" 4 2 C.Course_ ((G_Coursecauses_of C))) (F : Fun K "audit" "audit" s_audit fA fd) (hm : mg "audit" = some (.ref fA)) (b : Binds K fd ["problem", "setup", "first", "log"] []) : DefOk P w K mg base "audit" 7 4 (G_audit C) := by
  refine def_ok F hm b sc_audit rfl fun cdv A outer s H E hr => ?_
  unfold g_audit
  exact ⟨_, (is_bcons (is_set 4 sc_audit.nd (is_newI d_Course__init (hr.mono (by first | decide | exact Nat.le_refl _)) (is_acons (is_v 0) (is_acons (is_v 1) (is_acons (is_v 2) is_anil)))))
      (is_bcons (is_newT 5 sc_audit.nd)
      (is_bcons (is_for PassesOwn.never (is_iseq (is_v 3)) (is_gname 6 sc_audit.nd) (is_bcons (is_ifS (is_tw (is_wor (is_tnot (is_tval (is_meth d_Coursehas (hr.mono (by first | decide | exact Nat.le_refl _)) (is_v 4) (is_acons (is_v 6) is_anil)))) (is_wor1 (is_topB 5 (op_din (hu_of hr)) (r2_din false) (is_v 6) (by first | exact nomark _ | rfl))))) (is_bone is_break) is_bnil)
      (is_bcons (is_ifS (is_tnot (is_tval (is_all B.all_ (is_l (is_lc (own := [("cause", 7)]) sc_audit.nd (is_iseq (is_meth d_Coursecauses_of (hr.mono (by first | decide | exact Nat.le_refl _)) (is_v 4) (is_acons (is_v 6) is_anil))) (blkOk_by (own := [("cause", 7)]) (N := ["problem", "setup", "first", "log", "course", "seen", "event", "cause"]) (sc := defScope s_audit) (by decide +kernel)) (fun _ _ _ _ _ => isG_t (is_gname 7 sc_audit.nd) (by dsimp only [Cx.blk] <;> exact rfl)) (fun _ _ _ _ _ => isTs_t is_tsnil (by dsimp only [Cx.blk] <;> exact rfl)) (fun _ _ _ _ _ => isE_t (is_opB 5 (op_din (hu_of hr)) (r2_din false) (is_v 7) (by first | exact nomark _ | rfl)) (by dsimp only [Cx.blk] <;> exact rfl))))))) (is_bone is_break) is_bnil)
      (is_bone (is_putT 5 (hu_of hr) (is_v 6) is_bl)))))
      (is_bone (is_ret (is_lenTV 5 B.len_))))))⟩
/-! ### is_orderly -/
theorem sc_is_orderly : FnScope ["problem", "setup", "first", "log"] ["problem", "setup", "first", "log"] (defScope s_is_orderly) := ⟨rfl, rfl, rfl, by decide +kernel, rfl, by decide +kernel, by decide +kernel⟩
def g_is_orderly (C : Cl) : MS :=
  (sRet (eOp gEq (eCall 4 (G_audit C) (aCons (eVar 0) (aCons (eVar 1) (aCons (eVar 2) (aCons (eVar 3) aNil))))) (eCB gLen (aCons (eVar 3) aNil))))
def G_is_orderly (C : Cl) : Fn := fnG 4 (g_is_orderly C)
theorem d_is_orderly {P : Program} {w : World} {K : PySem.W.Frag} {mg : Str → Option Value} {base : Heap} {fA : Addr} {fd : FuncData} (B : Bl mg) {C : Cl} (CO : ClOk K mg C) (d_audit : DefOk P w K mg base "audit" 7 4 ((G_audit C))) (F : Fun K "is_orderly" "is_orderly" s_is_orderly fA fd) (hm : mg "is_orderly" = some (.ref fA)) (b : Binds K fd ["problem", "setup", "first", "log"] []) : DefOk P w K mg base "is_orderly" 8 4 (G_is_orderly C) := by
  refine def_ok F hm b sc_is_orderly rfl fun cdv A outer s H E hr => ?_
  unfold g_is_orderly
  exact ⟨_, (is_bone (is_ret (is_cmp (op_eqX hr.units) r2_eq (is_callD d_audit (hr.mono (by first | decide | exact Nat.le_refl _)) fnG_ne (is_acons (is_v 0) (is_acons (is_v 1) (is_acons (is_v 2) (is_acons (is_v 3) is_anil))))) (is_len B.len_ (is_v 3)) (nomark _))))⟩
/-! ### _law_cell -/
theorem sc_law_cell : FnScope ["script", "k"] ["script", "k"] (defScope s_law_cell) := ⟨rfl, rfl, rfl, by decide +kernel, rfl, by decide +kernel, by decide +kernel⟩
def g_law_cell : MS :=
  (sSeq (sIf (tOf (eOp (gC fun i j => decide (i < j)) (eVar 1) (eCB gLen (aCons (eVar 0) aNil)))) (sRet (eCB gInt (aCons (eIx (eVar 0) (eVar 1)) aNil))) sNext)
  (sRet (eC (.int 0))))
def G_law_cell : Fn := fnG 2 (g_law_cell)
theorem d_law_cell {P : Program} {w : World} {K : PySem.W.Frag} {mg : Str → Option Value} {base : Heap} {fA : Addr} {fd : FuncData} (B : Bl mg)  (F : Fun K "_law_cell" "_law_cell" s_law_cell fA fd) (hm : mg "_law_cell" = some (.ref fA)) (b : Binds K fd ["script", "k"] []) : DefOk P w K mg base "_law_cell" 1 2 G_law_cell := by
  refine def_ok F hm b sc_law_cell rfl fun cdv A outer s H E hr => ?_
  unfold g_law_cell
  exact ⟨_, (is_bcons (is_ifS (is_tcmp op_lt r2_C (is_v 1) (is_len B.len_ (is_v 0)) (nomark _)) (is_bone (is_ret (is_int1 B.int_ (is_ix (hu_of hr) (is_v 0) (is_v 1))))) is_bnil)
      (is_bone (is_ret is_int)))⟩
/-! ### _law_draws -/
theorem sc_law_draws : FnScope ["cell", "count", "number", "great", "found", "k", "mixed"] ["cell", "count"] (defScope s_law_draws) := ⟨rfl, rfl, rfl, by decide +kernel, rfl, by decide +kernel, by decide +kernel⟩
abbrev lb_law_draws_0 : MS :=
  (sIf (tAndB (tOf (eOp (gC fun i j => decide (i < j)) (eVar 5) (eVar 1))) (tOf (eVar 3))) (sSeq (sDrop (eM1V gApp 4 (eOp gMod (eVar 2) (eC (.int 60)))))
  (sAsg (eOp gDiv (eVar 2) (eC (.int 60))) (gSet 2))) (sIf (tOf (eOp (gC fun i j => decide (i < j)) (eVar 5) (eVar 1))) (sSeq (sAsg (eOp gMod (eOp gAdd (eOp gAdd (eOp gMul (eCB gInt (aCons (eVar 2) aNil)) (eC (.int 48271))) (eOp gMul (eVar 5) (eC (.int 69621)))) (eC (.int 11))) (eC (.int 2147483647))) (gSet 6))
  (sSeq (sAsg (eOp gMod (eOp gAdd (eOp gAdd (eOp gMul (eCB gInt (aCons (eVar 6) aNil)) (eCB gInt (aCons (eVar 6) aNil))) (eOp gMul (eVar 5) (eC (.int 7919)))) (eC (.int 5))) (eC (.int 998244353))) (gSet 6))
  (sDrop (eM1V gApp 4 (eOp gMod (eCB gInt (aCons (eVar 6) aNil)) (eC (.int 60))))))) sNext))
def g_law_draws : MS :=
  (sSeq (sAsg (eCB gAbs (aCons (eCB gInt (aCons (eVar 0) aNil)) aNil)) (gSet 2))
  (sSeq (sAsg (eOp (gC fun i j => decide (j ≤ i)) (eVar 2) (eOp gPow (eC (.int 10)) (eC (.int 18)))) (gSet 3))
  (sSeq (sSetL (lLst aNil) 4)
  (sSeq (sFor (bnd (aCons (eC (.int 60)) aNil) fun xs => lft (rng1 xs)) (gSet 5) lb_law_draws_0)
  (sRet (eVar 4))))))
def G_law_draws : Fn := fnG 7 (g_law_draws)
theorem d_law_draws {P : Program} {w : World} {K : PySem.W.Frag} {mg : Str → Option Value} {base : Heap} {fA : Addr} {fd : FuncData} (B : Bl mg)  (F : Fun K "_law_draws" "_law_draws" s_law_draws fA fd) (hm : mg "_law_draws" = some (.ref fA)) (b : Binds K fd ["cell", "count"] []) : DefOk P w K mg base "_law_draws" 1 2 G_law_draws := by
  refine def_ok F hm b sc_law_draws rfl fun cdv A outer s H E hr => ?_
  unfold g_law_draws
  exact ⟨_, (is_bcons (is_set 2 sc_law_draws.nd (is_abs B.abs_ (is_int1 B.int_ (is_v 0))))
      (is_bcons (is_set 3 sc_law_draws.nd (is_cmp op_ge r2_C (is_v 2) (is_pow is_int is_int) (nomark _)))
      (is_bcons (is_setL 4 sc_law_draws.nd (is_lst is_anil))
      (is_bcons (is_for PassesOwn.never (is_rng1 (is_acons is_int is_anil) (by rfl) B.range_) (is_gname 5 sc_law_draws.nd) (is_bone (is_ifS (is_tw (is_wand (is_tcmp op_lt r2_C (is_v 5) (is_v 1) (nomark _)) (is_wand1 (is_tval (is_v 3))))) (is_bcons (is_drop (is_appV 4 (is_mod (is_v 2) is_int)))
      (is_bone (is_set 2 sc_law_draws.nd (is_div (is_v 2) is_int)))) (is_bone (is_ifS (is_tcmp op_lt r2_C (is_v 5) (is_v 1) (nomark _)) (is_bcons (is_set 6 sc_law_draws.nd (is_mod (is_add (is_add (is_mul (is_int1 B.int_ (is_v 2)) is_int) (is_mul (is_v 5) is_int)) is_int) is_int))
      (is_bcons (is_set 6 sc_law_draws.nd (is_mod (is_add (is_add (is_mul (is_int1 B.int_ (is_v 6)) (is_int1 B.int_ (is_v 6))) (is_mul (is_v 5) is_int)) is_int) is_int))
      (is_bone (is_drop (is_appV 4 (is_mod (is_int1 B.int_ (is_v 6)) is_int)))))) is_bnil)))))
      (is_bone (is_ret (is_v 4)))))))⟩
/-! ### _law_stream -/
theorem sc_law_stream : FnScope ["script", "first", "count", "found", "k"] ["script", "first", "count"] (defScope s_law_stream) := ⟨rfl, rfl, rfl, by decide +kernel, rfl, by decide +kernel, by decide +kernel⟩
abbrev lb_law_stream_0 : MS :=
  (sDrop (eM1V gExt 3 (eCall 2 G_law_draws (aCons (eCall 2 G_law_cell (aCons (eVar 0) (aCons (eOp gAdd (eVar 1) (eVar 4)) aNil))) (aCons (eC (.int 12)) aNil)))))
def g_law_stream : MS :=
  (sSeq (sSetL (lLst aNil) 3)
  (sSeq (sFor (bnd (aCons (eVar 2) aNil) fun xs => lft (rng1 xs)) (gSet 4) lb_law_stream_0)
  (sRet (eNewW (aCons (eVar 3) (aCons (eNewW (aCons (eC (.int 0)) aNil)) aNil))))))
def G_law_stream : Fn := fnG 5 (g_law_stream)
theorem d_law_stream {P : Program} {w : World} {K : PySem.W.Frag} {mg : Str → Option Value} {base : Heap} {fA : Addr} {fd : FuncData} (B : Bl mg) (d_law_draws : DefOk P w K mg base "_law_draws" 1 2 (G_law_draws)) (d_law_cell : DefOk P w K mg base "_law_cell" 1 2 (G_law_cell)) (F : Fun K "_law_stream" "_law_stream" s_law_stream fA fd) (hm : mg "_law_stream" = some (.ref fA)) (b : Binds K fd ["script", "first", "count"] []) : DefOk P w K mg base "_law_stream" 2 3 G_law_stream := by
  refine def_ok F hm b sc_law_stream rfl fun cdv A outer s H E hr => ?_
  unfold g_law_stream
  exact ⟨_, (is_bcons (is_setL 3 sc_law_stream.nd (is_lst is_anil))
      (is_bcons (is_for PassesOwn.never (is_rng1 (is_acons (is_v 2) is_anil) (by rfl) B.range_) (is_gname 4 sc_law_stream.nd) (is_bone (is_drop (is_extV 3 (is_callD d_law_draws (hr.mono (by first | decide | exact Nat.le_refl _)) fnG_ne (is_acons (is_callD d_law_cell (hr.mono (by first | decide | exact Nat.le_refl _)) fnG_ne (is_acons (is_v 0) (is_acons (is_add (is_v 1) (is_v 4)) is_anil))) (is_acons is_int is_anil)))))))
      (is_bone (is_ret (is_lstW (is_acons (is_v 3) (is_acons (is_lstW (is_acons is_int is_anil)) is_anil)))))))⟩
/-! ### _law_next -/
theorem sc_law_next : FnScope ["stream", "many", "digits", "place", "value"] ["stream", "many"] (defScope s_law_next) := ⟨rfl, rfl, rfl, by decide +kernel, rfl, by decide +kernel, by decide +kernel⟩
def g_law_next : MS :=
  (sSeq (sAsg (eIx (eVar 0) (eC (.int 0))) (gSet 2))
  (sSeq (sAsg (eIx (eVar 0) (eC (.int 1))) (gSet 3))
  (sSeq (sAsg (eOp gMod (eCB gInt (aCons (eIx (eVar 2) (eOp gMod (eCB gInt (aCons (eIx (eVar 3) (eC (.int 0))) aNil)) (eCB gLen (aCons (eVar 2) aNil)))) aNil)) (eVar 1)) (gSet 4))
  (sSeq (sSetW 3 (eC (.int 0)) (eOp gAdd (eIx (eVar 3) (eC (.int 0))) (eC (.int 1))))
  (sRet (eVar 4))))))
def G_law_next : Fn := fnG 5 (g_law_next)
theorem d_law_next {P : Program} {w : World} {K : PySem.W.Frag} {mg : Str → Option Value} {base : Heap} {fA : Addr} {fd : FuncData} (B : Bl mg)  (F : Fun K "_law_next" "_law_next" s_law_next fA fd) (hm : mg "_law_next" = some (.ref fA)) (b : Binds K fd ["stream", "many"] []) : DefOk P w K mg base "_law_next" 1 2 G_law_next := by
  refine def_ok F hm b sc_law_next rfl fun cdv A outer s H E hr => ?_
  unfold g_law_next
  exact ⟨_, (is_bcons (is_set 2 sc_law_next.nd (is_ix (hu_of hr) (is_v 0) is_int))
      (is_bcons (is_set 3 sc_law_next.nd (is_ix (hu_of hr) (is_v 0) is_int))
      (is_bcons (is_set 4 sc_law_next.nd (is_mod (is_int1 B.int_ (is_ix (hu_of hr) (is_v 2) (is_mod (is_int1 B.int_ (is_ix (hu_of hr) (is_v 3) is_int)) (is_len B.len_ (is_v 2))))) (is_v 1)))
      (is_bcons (is_setW 3 is_int (is_add (is_ix (hu_of hr) (is_v 3) is_int) is_int))
      (is_bone (is_ret (is_v 4)))))))⟩
/-! ### _law_same -/
theorem sc_law_same : FnScope ["actual", "expected", "k"] ["actual", "expected"] (defScope s_law_same) := ⟨rfl, rfl, rfl, by decide +kernel, rfl, by decide +kernel, by decide +kernel⟩
abbrev lb_law_same_0 (R : Fn) : MS :=
  (sIf (tNotB (tOf (eCall 2 R (aCons (eIx (eVar 0) (eVar 2)) (aCons (eIx (eVar 1) (eVar 2)) aNil))))) (sRet (eC (.bl false))) sNext)
def g_law_same (R : Fn) : MS :=
  (sSeq (sIf (tOf (eOp gIsN (eVar 1) (eC .non))) (sRet (eOp gIsN (eVar 0) (eC .non))) sNext)
  (sSeq (sIf (tOf (eCB gIsi (aCons (eVar 1) (aCons (eC (.ty "bool")) aNil)))) (sRet (bnd (tOf (eCB gIsi (aCons (eVar 0) (aCons (eC (.ty "bool")) aNil)))) fun b => if b then (eOp gEq (eVar 0) (eVar 1)) else ret (.d (.bl false)))) sNext)
  (sSeq (sIf (tOf (eCB gIsi (aCons (eVar 1) (aCons (eC (.ty "int")) aNil)))) (sRet (bnd (tOf (eCB gIsi (aCons (eVar 0) (aCons (eC (.ty "int")) aNil)))) fun b => if b then (bnd (tOf (bnd (tOf (eCB gIsi (aCons (eVar 0) (aCons (eC (.ty "bool")) aNil)))) fun b => ret (.d (.bl (!b))))) fun b => if b then (eOp gEq (eVar 0) (eVar 1)) else ret (.d (.bl false))) else ret (.d (.bl false)))) sNext)
  (sSeq (sIf (tOf (eCB gIsi (aCons (eVar 1) (aCons (eC (.ty "str")) aNil)))) (sRet (bnd (tOf (eCB gIsi (aCons (eVar 0) (aCons (eC (.ty "str")) aNil)))) fun b => if b then (eOp gEq (eVar 0) (eVar 1)) else ret (.d (.bl false)))) sNext)
  (sSeq (sIf (tAndB (tOf (eCB gIsi (aCons (eVar 1) (aCons (eC (.ty "tuple")) aNil)))) (tNotB (tOf (eCB gIsi (aCons (eVar 0) (aCons (eC (.ty "tuple")) aNil)))))) (sRet (eC (.bl false))) sNext)
  (sSeq (sIf (tAndB (tOf (eCB gIsi (aCons (eVar 1) (aCons (eC (.ty "list")) aNil)))) (tNotB (tOf (eCB gIsi (aCons (eVar 0) (aCons (eC (.ty "list")) aNil)))))) (sRet (eC (.bl false))) sNext)
  (sSeq (sIf (tOf (eOp gNe (eCB gLen (aCons (eVar 0) aNil)) (eCB gLen (aCons (eVar 1) aNil)))) (sRet (eC (.bl false))) sNext)
  (sSeq (sFor (bnd (aCons (eCB gLen (aCons (eVar 1) aNil)) aNil) fun xs => lft (rng1 xs)) (gSet 2) (lb_law_same_0 R))
  (sRet (eC (.bl true)))))))))))
def G_law_same : Nat → Fn
  | 0 => fun _ _ => none
  | n + 1 => fnG 3 (g_law_same (G_law_same n))
theorem G_law_same_ne (n : Nat) : ∀ xs w c w1, G_law_same n xs w ≠ some (.error c, w1) := by
  cases n with
  | zero => exact fun _ _ _ _ h => nomatch h
  | succ n => exact fnG_ne
theorem d_law_same {P : Program} {w : World} {K : PySem.W.Frag} {mg : Str → Option Value} {base : Heap} {fA : Addr} {fd : FuncData} (B : Bl mg) (F : Fun K "_law_same" "_law_same" s_law_same fA fd) (hm : mg "_law_same" = some (.ref fA)) (b : Binds K fd ["actual", "expected"] []) : ∀ n, DefOk P w K mg base "_law_same" n 2 (G_law_same n)
  | 0 => def_zero F hm b rfl
  | n + 1 => by
    have ih := d_law_same B F hm b n (P := P) (w := w) (base := base)
    refine def_ok F hm b sc_law_same rfl fun cdv A outer s H E hr => ?_
    unfold g_law_same
    exact ⟨_, (is_bcons (is_ifS (is_tcmp op_isN r2_isN (is_v 1) is_non (nomark _)) (is_bone (is_ret (is_cmp op_isN r2_isN (is_v 0) is_non (nomark _)))) is_bnil)
      (is_bcons (is_ifS (is_tval (is_isi B.isinstance_ (is_v 1) (is_ty (by rfl) B.bool_ (by decide +kernel)))) (is_bone (is_ret (is_eand (is_isi B.isinstance_ (is_v 0) (is_ty (by rfl) B.bool_ (by decide +kernel))) (is_eand1 (is_cmp (op_eqX hr.units) r2_eq (is_v 0) (is_v 1) (nomark _)))))) is_bnil)
      (is_bcons (is_ifS (is_tval (is_isi B.isinstance_ (is_v 1) (is_ty (by rfl) B.int_ (by decide +kernel)))) (is_bone (is_ret (is_eand (is_isi B.isinstance_ (is_v 0) (is_ty (by rfl) B.int_ (by decide +kernel))) (is_eand (is_enot (is_isi B.isinstance_ (is_v 0) (is_ty (by rfl) B.bool_ (by decide +kernel)))) (is_eand1 (is_cmp (op_eqX hr.units) r2_eq (is_v 0) (is_v 1) (nomark _))))))) is_bnil)
      (is_bcons (is_ifS (is_tval (is_isi B.isinstance_ (is_v 1) (is_ty (by rfl) B.str_ (by decide +kernel)))) (is_bone (is_ret (is_eand (is_isi B.isinstance_ (is_v 0) (is_ty (by rfl) B.str_ (by decide +kernel))) (is_eand1 (is_cmp (op_eqX hr.units) r2_eq (is_v 0) (is_v 1) (nomark _)))))) is_bnil)
      (is_bcons (is_ifS (is_tw (is_wand (is_tval (is_isi B.isinstance_ (is_v 1) (is_ty (by rfl) B.tuple_ (by decide +kernel)))) (is_wand1 (is_tnot (is_tval (is_isi B.isinstance_ (is_v 0) (is_ty (by rfl) B.tuple_ (by decide +kernel)))))))) (is_bone (is_ret is_bl)) is_bnil)
      (is_bcons (is_ifS (is_tw (is_wand (is_tval (is_isi B.isinstance_ (is_v 1) (is_ty (by rfl) B.list_ (by decide +kernel)))) (is_wand1 (is_tnot (is_tval (is_isi B.isinstance_ (is_v 0) (is_ty (by rfl) B.list_ (by decide +kernel)))))))) (is_bone (is_ret is_bl)) is_bnil)
      (is_bcons (is_ifS (is_tcmp (op_neX hr.units) r2_ne (is_len B.len_ (is_v 0)) (is_len B.len_ (is_v 1)) (nomark _)) (is_bone (is_ret is_bl)) is_bnil)
      (is_bcons (is_for PassesOwn.never (is_rng1 (is_acons (is_len B.len_ (is_v 1)) is_anil) (by rfl) B.range_) (is_gname 2 sc_law_same.nd) (is_bone (is_ifS (is_tnot (is_tval (is_callD ih (hr.mono (by first | decide | exact Nat.le_refl _)) (G_law_same_ne _) (is_acons (is_ix (hu_of hr) (is_v 0) (is_v 2)) (is_acons (is_ix (hu_of hr) (is_v 1) (is_v 2)) is_anil))))) (is_bone (is_ret is_bl)) is_bnil)))
      (is_bone (is_ret is_bl))))))))))⟩
/-! ### _law_problem -/
theorem sc_law_problem : FnScope ["stream", "most", "k", "rows", "batches", "t", "samples", "left", "chosen", "j"] ["stream", "most"] (defScope s_law_problem) := ⟨rfl, rfl, rfl, by decide +kernel, rfl, by decide +kernel, by decide +kernel⟩
abbrev lb_law_problem_0 : MS :=
  (sDrop (eM1V gApp 8 (eM1V gPopAt 7 (eCall 2 G_law_next (aCons (eVar 0) (aCons (eCBV gLen 7) aNil))))))
abbrev lb_law_problem_1 : MS :=
  (sSeq (sSetL (lRng (eCB gLen (aCons (eVar 3) aNil))) 7)
  (sSeq (sSetL (lLst aNil) 8)
  (sSeq (sFor (bnd (aCons (eCB gMin (aCons (eCB gLen (aCons (eVar 3) aNil)) (aCons (eOp gAdd (eC (.int 1)) (eCall 2 G_law_next (aCons (eVar 0) (aCons (eC (.int 3)) aNil)))) aNil))) aNil) fun xs => lft (rng1 xs)) (gSet 9) lb_law_problem_0)
  (sDrop (eM1V gApp 6 (eTup (aCons (eCBV gTuple 8) (aCons (eOp gMinus (eCall 2 G_law_next (aCons (eVar 0) (aCons (eC (.int 41)) aNil))) (eC (.int 20))) aNil))))))))
abbrev lb_law_problem_2 : MS :=
  (sSeq (sSetL (lLst aNil) 6)
  (sSeq (sFor (bnd (aCons (eIx (eL (lLst (aCons (eC (.int 0)) (aCons (eC (.int 1)) (aCons (eC (.int 1)) (aCons (eC (.int 2)) (aCons (eC (.int 2)) (aCons (eC (.int 3)) (aCons (eC (.int 5)) aNil))))))))) (eCall 2 G_law_next (aCons (eVar 0) (aCons (eC (.int 7)) aNil)))) aNil) fun xs => lft (rng1 xs)) (gSet 2) lb_law_problem_1)
  (sDrop (eM1V gApp 4 (eCBV gTuple 6)))))
def g_law_problem : MS :=
  (sSeq (sAsg (eCB gTuple (aCons (eL (lLc [2] (bnd (aCons (eOp gAdd (eC (.int 1)) (eCall 2 G_law_next (aCons (eVar 0) (aCons (eC (.int 5)) aNil)))) aNil) fun xs => lft (rng1 xs)) (gSet 2) (ret true) (eOp gMinus (eCall 2 G_law_next (aCons (eVar 0) (aCons (eC (.int 21)) aNil))) (eC (.int 10))))) aNil)) (gSet 3))
  (sSeq (sSetL (lLst aNil) 4)
  (sSeq (sFor (bnd (aCons (eOp gAdd (eC (.int 1)) (eCall 2 G_law_next (aCons (eVar 0) (aCons (eVar 1) aNil)))) aNil) fun xs => lft (rng1 xs)) (gSet 5) lb_law_problem_2)
  (sRet (eTup (aCons (eVar 3) (aCons (eCBV gTuple 4) (aCons (eOp gAdd (eC (.int 1)) (eCall 2 G_law_next (aCons (eVar 0) (aCons (eC (.int 3)) aNil)))) (aCons (eOp gAdd (eC (.int 1)) (eCall 2 G_law_next (aCons (eVar 0) (aCons (eC (.int 6)) aNil)))) aNil)))))))))
def G_law_problem : Fn := fnG 10 (g_law_problem)
theorem d_law_problem {P : Program} {w : World} {K : PySem.W.Frag} {mg : Str → Option Value} {base : Heap} {fA : Addr} {fd : FuncData} (B : Bl mg) (d_law_next : DefOk P w K mg base "_law_next" 1 2 (G_law_next)) (F : Fun K "_law_problem" "_law_problem" s_law_problem fA fd) (hm : mg "_law_problem" = some (.ref fA)) (b : Binds K fd ["stream", "most"] []) : DefOk P w K mg base "_law_problem" 2 2 G_law_problem := by
  refine def_ok F hm b sc_law_problem rfl fun cdv A outer s H E hr => ?_
  unfold g_law_problem
  exact ⟨_, (is_bcons (is_set 3 sc_law_problem.nd (is_tuple B.tuple_ (is_l (is_lc (own := [("k", 2)]) sc_law_problem.nd (is_rng1 (is_acons (is_add is_int (is_callD d_law_next (hr.mono (by first | decide | exact Nat.le_refl _)) fnG_ne (is_acons (is_v 0) (is_acons is_int is_anil)))) is_anil) (by rfl) B.range_) (blkOk_by (own := [("k", 2)]) (N := ["stream", "most", "k", "rows", "batches", "t", "samples", "left", "chosen", "j"]) (sc := defScope s_law_problem) (by decide +kernel)) (fun _ _ _ _ _ => isG_t (is_gname 2 sc_law_problem.nd) (by dsimp only [Cx.blk] <;> exact rfl)) (fun _ _ _ _ _ => isTs_t is_tsnil (by dsimp only [Cx.blk] <;> exact rfl)) (fun _ _ _ _ _ => isE_t (is_sub (is_callD d_law_next (hr.mono (by first | decide | exact Nat.le_refl _)) fnG_ne (is_acons (is_v 0) (is_acons is_int is_anil))) is_int) (by dsimp only [Cx.blk] <;> exact rfl))))))
      (is_bcons (is_setL 4 sc_law_problem.nd (is_lst is_anil))
      (is_bcons (is_for PassesOwn.never (is_rng1 (is_acons (is_add is_int (is_callD d_law_next (hr.mono (by first | decide | exact Nat.le_refl _)) fnG_ne (is_acons (is_v 0) (is_acons (is_v 1) is_anil)))) is_anil) (by rfl) B.range_) (is_gname 5 sc_law_problem.nd) (is_bcons (is_setL 6 sc_law_problem.nd (is_lst is_anil))
      (is_bcons (is_for PassesOwn.never (is_rng1 (is_acons (is_ix (hu_of hr) (is_l (is_lst (is_acons is_int (is_acons is_int (is_acons is_int (is_acons is_int (is_acons is_int (is_acons is_int (is_acons is_int is_anil))))))))) (is_callD d_law_next (hr.mono (by first | decide | exact Nat.le_refl _)) fnG_ne (is_acons (is_v 0) (is_acons is_int is_anil)))) is_anil) (by rfl) B.range_) (is_gname 2 sc_law_problem.nd) (is_bcons (is_setL 7 sc_law_problem.nd (is_lrng (is_len B.len_ (is_v 3)) (by rfl) B.range_ (by rfl) B.list_))
      (is_bcons (is_setL 8 sc_law_problem.nd (is_lst is_anil))
      (is_bcons (is_for PassesOwn.never (is_rng1 (is_acons (is_min2 B.min_ (is_len B.len_ (is_v 3)) (is_add is_int (is_callD d_law_next (hr.mono (by first | decide | exact Nat.le_refl _)) fnG_ne (is_acons (is_v 0) (is_acons is_int is_anil))))) is_anil) (by rfl) B.range_) (is_gname 9 sc_law_problem.nd) (is_bone (is_drop (is_appV 8 (is_popV 7 (is_callD d_law_next (hr.mono (by first | decide | exact Nat.le_refl _)) fnG_ne (is_acons (is_v 0) (is_acons (is_lenV 7 B.len_) is_anil))))))))
      (is_bone (is_drop (is_appV 6 (is_tup (is_acons (is_tupleV 8 B.tuple_) (is_acons (is_sub (is_callD d_law_next (hr.mono (by first | decide | exact Nat.le_refl _)) fnG_ne (is_acons (is_v 0) (is_acons is_int is_anil))) is_int) is_anil))))))))))
      (is_bone (is_drop (is_appV 4 (is_tupleV 6 B.tuple_)))))))
      (is_bone (is_ret (is_tup (is_acons (is_v 3) (is_acons (is_tupleV 4 B.tuple_) (is_acons (is_add is_int (is_callD d_law_next (hr.mono (by first | decide | exact Nat.le_refl _)) fnG_ne (is_acons (is_v 0) (is_acons is_int is_anil)))) (is_acons (is_add is_int (is_callD d_law_next (hr.mono (by first | decide | exact Nat.le_refl _)) fnG_ne (is_acons (is_v 0) (is_acons is_int is_anil)))) is_anil))))))))))⟩
/-! ### _law_part -/
theorem sc_law_part : FnScope ["problem", "setup", "trainer", "batch", "samples", "k"] ["problem", "setup", "trainer", "batch"] (defScope s_law_part) := ⟨rfl, rfl, rfl, by decide +kernel, rfl, by decide +kernel, by decide +kernel⟩
def g_law_part : MS :=
  (sSeq (sAsg (eIx (eIx (eVar 0) (eC (.int 1))) (eVar 3)) (gSet 4))
  (sRet (eL (lLc [5] (bnd (aCons (eCB gLen (aCons (eVar 4) aNil)) aNil) fun xs => lft (rng1 xs)) (gSet 5) (tOf (eOp gEq (eOp gMod (eVar 5) (eIx (eVar 1) (eC (.int 0)))) (eVar 2))) (eIx (eVar 4) (eVar 5))))))
def G_law_part : Fn := fnG 6 (g_law_part)
theorem d_law_part {P : Program} {w : World} {K : PySem.W.Frag} {mg : Str → Option Value} {base : Heap} {fA : Addr} {fd : FuncData} (B : Bl mg)  (F : Fun K "_law_part" "_law_part" s_law_part fA fd) (hm : mg "_law_part" = some (.ref fA)) (b : Binds K fd ["problem", "setup", "trainer", "batch"] []) : DefOk P w K mg base "_law_part" 1 4 G_law_part := by
  refine def_ok F hm b sc_law_part rfl fun cdv A outer s H E hr => ?_
  unfold g_law_part
  exact ⟨_, (is_bcons (is_set 4 sc_law_part.nd (is_ix (hu_of hr) (is_ix (hu_of hr) (is_v 0) is_int) (is_v 3)))
      (is_bone (is_ret (is_l (is_lc (own := [("k", 5)]) sc_law_part.nd (is_rng1 (is_acons (is_len B.len_ (is_v 4)) is_anil) (by rfl) B.range_) (blkOk_by (own := [("k", 5)]) (N := ["problem", "setup", "trainer", "batch", "samples", "k"]) (sc := defScope s_law_part) (by decide +kernel)) (fun _ _ _ _ _ => isG_t (is_gname 5 sc_law_part.nd) (by dsimp only [Cx.blk] <;> exact rfl)) (fun _ _ _ _ _ => isTs_t (is_tsone (is_tcmp (op_eqX hr.units) r2_eq (is_mod (is_v 5) (is_ix (hu_of hr) (is_v 1) is_int)) (is_v 2) (nomark _))) (by dsimp only [Cx.blk] <;> exact rfl)) (fun _ _ _ _ _ => isE_t (is_ix (hu_of hr) (is_v 4) (is_v 5)) (by dsimp only [Cx.blk] <;> exact rfl)))))))⟩
/-! ### _law_looked -/
theorem sc_law_looked : FnScope ["samples", "found", "rows", "target", "row"] ["samples"] (defScope s_law_looked) := ⟨rfl, rfl, rfl, by decide +kernel, rfl, by decide +kernel, by decide +kernel⟩
abbrev lb_law_looked_0 : MS :=
  (sDrop (eM1V gExt 1 (eL (lLc [4] (iOf (eVar 2)) (gSet 4) (tOf (eOpB (gIn true) (eVar 4) 1)) (eVar 4)))))
def g_law_looked : MS :=
  (sSeq (sSetL (lLst aNil) 1)
  (sSeq (sFor (iOf (eVar 0)) (gTupD 2 (gsCons (gSet 2) (gsCons (gSet 3) gsNil))) lb_law_looked_0)
  (sRet (eL (lCB gSorted (aCons (eVar 1) aNil))))))
def G_law_looked : Fn := fnG 5 (g_law_looked)
theorem d_law_looked {P : Program} {w : World} {K : PySem.W.Frag} {mg : Str → Option Value} {base : Heap} {fA : Addr} {fd : FuncData} (B : Bl mg)  (F : Fun K "_law_looked" "_law_looked" s_law_looked fA fd) (hm : mg "_law_looked" = some (.ref fA)) (b : Binds K fd ["samples"] []) : DefOk P w K mg base "_law_looked" 1 1 G_law_looked := by
  refine def_ok F hm b sc_law_looked rfl fun cdv A outer s H E hr => ?_
  unfold g_law_looked
  exact ⟨_, (is_bcons (is_setL 1 sc_law_looked.nd (is_lst is_anil))
      (is_bcons (is_for PassesOwn.never (is_iseq (is_v 0)) (is_gtup (is_gscons (is_gname 2 sc_law_looked.nd) (is_gscons (is_gname 3 sc_law_looked.nd) is_gsnil))) (is_bone (is_drop (is_extV 1 (is_l (is_lc (own := [("row", 4)]) sc_law_looked.nd (is_iseq (is_v 2)) (blkOk_by (own := [("row", 4)]) (N := ["samples", "found", "rows", "target", "row"]) (sc := defScope s_law_looked) (by decide +kernel)) (fun _ _ _ _ _ => isG_t (is_gname 4 sc_law_looked.nd) (by dsimp only [Cx.blk] <;> exact rfl)) (fun _ _ _ _ _ => isTs_t (is_tsone (is_topB 1 op_notIn_seq (r2_in true) (is_v 4) (by first | exact nomark _ | rfl))) (by dsimp only [Cx.blk] <;> exact rfl)) (fun _ _ _ _ _ => isE_t (is_v 4) (by dsimp only [Cx.blk] <;> exact rfl))))))))
      (is_bone (is_ret (is_l (is_sorted B.sorted_ (is_v 1)))))))⟩
/-! ### _law_users -/
theorem sc_law_users : FnScope ["problem", "setup", "row", "batch", "trainer"] ["problem", "setup", "row", "batch"] (defScope s_law_users) := ⟨rfl, rfl, rfl, by decide +kernel, rfl, by decide +kernel, by decide +kernel⟩
def g_law_users : MS :=
  (sRet (eL (lLc [4] (bnd (aCons (eIx (eVar 1) (eC (.int 0))) aNil) fun xs => lft (rng1 xs)) (gSet 4) (tOf (eOp (gIn false) (eVar 2) (eCall 1 G_law_looked (aCons (eCall 4 G_law_part (aCons (eVar 0) (aCons (eVar 1) (aCons (eVar 4) (aCons (eVar 3) aNil))))) aNil)))) (eVar 4))))
def G_law_users : Fn := fnG 5 (g_law_users)
theorem d_law_users {P : Program} {w : World} {K : PySem.W.Frag} {mg : Str → Option Value} {base : Heap} {fA : Addr} {fd : FuncData} (B : Bl mg) (d_law_looked : DefOk P w K mg base "_law_looked" 1 1 (G_law_looked)) (d_law_part : DefOk P w K mg base "_law_part" 1 4 (G_law_part)) (F : Fun K "_law_users" "_law_users" s_law_users fA fd) (hm : mg "_law_users" = some (.ref fA)) (b : Binds K fd ["problem", "setup", "row", "batch"] []) : DefOk P w K mg base "_law_users" 2 4 G_law_users := by
  refine def_ok F hm b sc_law_users rfl fun cdv A outer s H E hr => ?_
  unfold g_law_users
  exact ⟨_, (is_bone (is_ret (is_l (is_lc (own := [("trainer", 4)]) sc_law_users.nd (is_rng1 (is_acons (is_ix (hu_of hr) (is_v 1) is_int) is_anil) (by rfl) B.range_) (blkOk_by (own := [("trainer", 4)]) (N := ["problem", "setup", "row", "batch", "trainer"]) (sc := defScope s_law_users) (by decide +kernel)) (fun _ _ _ _ _ => isG_t (is_gname 4 sc_law_users.nd) (by dsimp only [Cx.blk] <;> exact rfl)) (fun _ _ _ _ _ => isTs_t (is_tsone (is_tcmp op_in_seq (r2_in false) (is_v 2) (is_callD d_law_looked (hr.mono (by first | decide | exact Nat.le_refl _)) fnG_ne (is_acons (is_callD d_law_part (hr.mono (by first | decide | exact Nat.le_refl _)) fnG_ne (is_acons (is_v 0) (is_acons (is_v 1) (is_acons (is_v 4) (is_acons (is_v 3) is_anil))))) is_anil)) (by first | exact nomark _ | rfl))) (by dsimp only [Cx.blk] <;> exact rfl)) (fun _ _ _ _ _ => isE_t (is_v 4) (by dsimp only [Cx.blk] <;> exact rfl))))))⟩
/-! ### _law_uses -/
theorem sc_law_uses : FnScope ["problem", "first", "row", "batch"] ["problem", "first", "row"] (defScope s_law_uses) := ⟨rfl, rfl, rfl, by decide +kernel, rfl, by decide +kernel, by decide +kernel⟩
def g_law_uses : MS :=
  (sRet (eL (lLc [3] (bnd (aCons (eVar 1) (aCons (eCB gLen (aCons (eIx (eVar 0) (eC (.int 1))) aNil)) aNil)) fun xs => lft (rng2 xs)) (gSet 3) (tOf (eOp (gIn false) (eVar 2) (eCall 1 G_law_looked (aCons (eIx (eIx (eVar 0) (eC (.int 1))) (eVar 3)) aNil)))) (eVar 3))))
def G_law_uses : Fn := fnG 4 (g_law_uses)
theorem d_law_uses {P : Program} {w : World} {K : PySem.W.Frag} {mg : Str → Option Value} {base : Heap} {fA : Addr} {fd : FuncData} (B : Bl mg) (d_law_looked : DefOk P w K mg base "_law_looked" 1 1 (G_law_looked)) (F : Fun K "_law_uses" "_law_uses" s_law_uses fA fd) (hm : mg "_law_uses" = some (.ref fA)) (b : Binds K fd ["problem", "first", "row"] []) : DefOk P w K mg base "_law_uses" 2 3 G_law_uses := by
  refine def_ok F hm b sc_law_uses rfl fun cdv A outer s H E hr => ?_
  unfold g_law_uses
  exact ⟨_, (is_bone (is_ret (is_l (is_lc (own := [("batch", 3)]) sc_law_uses.nd (is_rng2 (is_acons (is_v 1) (is_acons (is_len B.len_ (is_ix (hu_of hr) (is_v 0) is_int)) is_anil)) (by rfl) B.range_) (blkOk_by (own := [("batch", 3)]) (N := ["problem", "first", "row", "batch"]) (sc := defScope s_law_uses) (by decide +kernel)) (fun _ _ _ _ _ => isG_t (is_gname 3 sc_law_uses.nd) (by dsimp only [Cx.blk] <;> exact rfl)) (fun _ _ _ _ _ => isTs_t (is_tsone (is_tcmp op_in_seq (r2_in false) (is_v 2) (is_callD d_law_looked (hr.mono (by first | decide | exact Nat.le_refl _)) fnG_ne (is_acons (is_ix (hu_of hr) (is_ix (hu_of hr) (is_v 0) is_int) (is_v 3)) is_anil)) (by first | exact nomark _ | rfl))) (by dsimp only [Cx.blk] <;> exact rfl)) (fun _ _ _ _ _ => isE_t (is_v 3) (by dsimp only [Cx.blk] <;> exact rfl))))))⟩
/-! ### _law_stays -/
theorem sc_law_stays : FnScope ["problem", "setup", "first", "found", "row", "used", "opens", "k"] ["problem", "setup", "first"] (defScope s_law_stays) := ⟨rfl, rfl, rfl, by decide +kernel, rfl, by decide +kernel, by decide +kernel⟩
abbrev lb_law_stays_0 : MS :=
  (sSeq (sIf (tOf (eOp gIsN (eVar 6) (eC .non))) (sAsg (eIx (eVar 5) (eVar 7)) (gSet 6)) sNext)
  (sIf (tOrB (tOf (eOp gEq (eOp gAdd (eVar 7) (eC (.int 1))) (eCB gLen (aCons (eVar 5) aNil)))) (tOf (eOp (gC fun i j => decide (j < i)) (eIx (eVar 5) (eOp gAdd (eVar 7) (eC (.int 1)))) (eOp gAdd (eIx (eVar 5) (eVar 7)) (eIx (eVar 1) (eC (.int 1))))))) (sSeq (sDrop (eM1V gApp 3 (eTup (aCons (eVar 4) (aCons (eVar 6) (aCons (eIx (eVar 5) (eVar 7)) aNil))))))
  (sAsg (eC .non) (gSet 6))) sNext))
abbrev lb_law_stays_1 : MS :=
  (sSeq (sAsg (eCall 3 G_law_uses (aCons (eVar 0) (aCons (eVar 2) (aCons (eVar 4) aNil)))) (gSet 5))
  (sSeq (sAsg (eC .non) (gSet 6))
  (sFor (bnd (aCons (eCB gLen (aCons (eVar 5) aNil)) aNil) fun xs => lft (rng1 xs)) (gSet 7) lb_law_stays_0)))
def g_law_stays : MS :=
  (sSeq (sSetL (lLst aNil) 3)
  (sSeq (sFor (bnd (aCons (eCB gLen (aCons (eIx (eVar 0) (eC (.int 0))) aNil)) aNil) fun xs => lft (rng1 xs)) (gSet 4) lb_law_stays_1)
  (sRet (eCBV gTuple 3))))
def G_law_stays : Fn := fnG 8 (g_law_stays)
theorem d_law_stays {P : Program} {w : World} {K : PySem.W.Frag} {mg : Str → Option Value} {base : Heap} {fA : Addr} {fd : FuncData} (B : Bl mg) (d_law_uses : DefOk P w K mg base "_law_uses" 2 3 (G_law_uses)) (F : Fun K "_law_stays" "_law_stays" s_law_stays fA fd) (hm : mg "_law_stays" = some (.ref fA)) (b : Binds K fd ["problem", "setup", "first"] []) : DefOk P w K mg base "_law_stays" 3 3 G_law_stays := by
  refine def_ok F hm b sc_law_stays rfl fun cdv A outer s H E hr => ?_
  unfold g_law_stays
  exact ⟨_, (is_bcons (is_setL 3 sc_law_stays.nd (is_lst is_anil))
      (is_bcons (is_for PassesOwn.never (is_rng1 (is_acons (is_len B.len_ (is_ix (hu_of hr) (is_v 0) is_int)) is_anil) (by rfl) B.range_) (is_gname 4 sc_law_stays.nd) (is_bcons (is_set 5 sc_law_stays.nd (is_callD d_law_uses (hr.mono (by first | decide | exact Nat.le_refl _)) fnG_ne (is_acons (is_v 0) (is_acons (is_v 2) (is_acons (is_v 4) is_anil)))))
      (is_bcons (is_set 6 sc_law_stays.nd is_non)
      (is_bone (is_for PassesOwn.never (is_rng1 (is_acons (is_len B.len_ (is_v 5)) is_anil) (by rfl) B.range_) (is_gname 7 sc_law_stays.nd) (is_bcons (is_ifS (is_tcmp op_isN r2_isN (is_v 6) is_non (nomark _)) (is_bone (is_set 6 sc_law_stays.nd (is_ix (hu_of hr) (is_v 5) (is_v 7)))) is_bnil)
      (is_bone (is_ifS (is_tw (is_wor (is_tcmp (op_eqX hr.units) r2_eq (is_add (is_v 7) is_int) (is_len B.len_ (is_v 5)) (nomark _)) (is_wor1 (is_tcmp op_gt r2_C (is_ix (hu_of hr) (is_v 5) (is_add (is_v 7) is_int)) (is_add (is_ix (hu_of hr) (is_v 5) (is_v 7)) (is_ix (hu_of hr) (is_v 1) is_int)) (nomark _))))) (is_bcons (is_drop (is_appV 3 (is_tup (is_acons (is_v 4) (is_acons (is_v 6) (is_acons (is_ix (hu_of hr) (is_v 5) (is_v 7)) is_anil))))))
      (is_bone (is_set 6 sc_law_stays.nd is_non))) is_bnil))))))))
      (is_bone (is_ret (is_tupleV 3 B.tuple_)))))⟩
/-! ### _law_events -/
theorem sc_law_events : FnScope ["problem", "setup", "first", "rows", "found", "batch", "row", "opened", "closed", "pairs", "kind", "opens", "closes", "trainer"] ["problem", "setup", "first"] (defScope s_law_events) := ⟨rfl, rfl, rfl, by decide +kernel, rfl, by decide +kernel, by decide +kernel⟩
abbrev lb_law_events_0 : MS :=
  (sDrop (eM1V gExt 9 (eL (lLc [13] (iOf (eCall 4 G_law_users (aCons (eVar 0) (aCons (eVar 1) (aCons (eVar 6) (aCons (eVar 5) aNil)))))) (gSet 13) (ret true) (eTup (aCons (eVar 6) (aCons (eVar 13) aNil)))))))
abbrev lb_law_events_1 : MS :=
  (sDrop (eM1V gExt 4 (eL (lLc [6] (iOf (eVar 7)) (gSet 6) (ret true) (eTup (aCons (eVar 10) (aCons (eVar 6) (aCons (eVar 5) aNil))))))))
abbrev lb_law_events_2 : MS :=
  (sDrop (eM1V gExt 4 (eL (lLc [6] (iOf (eVar 8)) (gSet 6) (ret true) (eTup (aCons (eVar 10) (aCons (eVar 6) (aCons (eVar 5) aNil))))))))
abbrev lb_law_events_3 : MS :=
  (sSeq (sAsg (eL (lLc [6, 11, 12] (iOf (eVar 3)) (gTupD 3 (gsCons (gSet 6) (gsCons (gSet 11) (gsCons (gSet 12) gsNil)))) (tOf (eOp gEq (eVar 11) (eVar 5))) (eVar 6))) (gSet 7))
  (sSeq (sAsg (eL (lLc [6, 11, 12] (iOf (eVar 3)) (gTupD 3 (gsCons (gSet 6) (gsCons (gSet 11) (gsCons (gSet 12) gsNil)))) (tOf (eOp gEq (eVar 12) (eVar 5))) (eVar 6))) (gSet 8))
  (sSeq (sSetL (lLst aNil) 9)
  (sSeq (sFor (bnd (aCons (eCB gLen (aCons (eIx (eVar 0) (eC (.int 0))) aNil)) aNil) fun xs => lft (rng1 xs)) (gSet 6) lb_law_events_0)
  (sSeq (sFor (iOf (eL (lLst (aCons (eC (.str "request")) (aCons (eC (.str "read")) (aCons (eC (.str "reply")) aNil)))))) (gSet 10) lb_law_events_1)
  (sSeq (sDrop (eM1V gExt 4 (eL (lLc [6, 13] (iOf (eVar 9)) (gTupD 2 (gsCons (gSet 6) (gsCons (gSet 13) gsNil))) (ret true) (eTup (aCons (eC (.str "value")) (aCons (eVar 6) (aCons (eVar 5) (aCons (eVar 13) aNil)))))))))
  (sSeq (sDrop (eM1V gExt 4 (eL (lLc [13] (bnd (aCons (eIx (eVar 1) (eC (.int 0))) aNil) fun xs => lft (rng1 xs)) (gSet 13) (ret true) (eTup (aCons (eC (.str "compute")) (aCons (eVar 13) (aCons (eVar 5) aNil))))))))
  (sSeq (sDrop (eM1V gExt 4 (eL (lLc [6, 13] (iOf (eVar 9)) (gTupD 2 (gsCons (gSet 6) (gsCons (gSet 13) gsNil))) (ret true) (eTup (aCons (eC (.str "update")) (aCons (eVar 6) (aCons (eVar 5) (aCons (eVar 13) aNil)))))))))
  (sFor (iOf (eL (lLst (aCons (eC (.str "write")) (aCons (eC (.str "ack")) aNil))))) (gSet 10) lb_law_events_2)))))))))
def g_law_events : MS :=
  (sSeq (sAsg (eCall 3 G_law_stays (aCons (eVar 0) (aCons (eVar 1) (aCons (eVar 2) aNil)))) (gSet 3))
  (sSeq (sSetL (lLst aNil) 4)
  (sSeq (sFor (bnd (aCons (eVar 2) (aCons (eCB gLen (aCons (eIx (eVar 0) (eC (.int 1))) aNil)) aNil)) fun xs => lft (rng2 xs)) (gSet 5) lb_law_events_3)
  (sRet (eCBV gTuple 4)))))
def G_law_events : Fn := fnG 14 (g_law_events)
theorem d_law_events {P : Program} {w : World} {K : PySem.W.Frag} {mg : Str → Option Value} {base : Heap} {fA : Addr} {fd : FuncData} (B : Bl mg) (d_law_stays : DefOk P w K mg base "_law_stays" 3 3 (G_law_stays)) (d_law_users : DefOk P w K mg base "_law_users" 2 4 (G_law_users)) (F : Fun K "_law_events" "_law_events" s_law_events fA fd) (hm : mg "_law_events" = some (.ref fA)) (b : Binds K fd ["problem", "setup", "first"] []) : DefOk P w K mg base "_law_events" 4 3 G_law_events := by
  refine def_ok F hm b sc_law_events rfl fun cdv A outer s H E hr => ?_
  unfold g_law_events
  exact ⟨_, (is_bcons (is_set 3 sc_law_events.nd (is_callD d_law_stays (hr.mono (by first | decide | exact Nat.le_refl _)) fnG_ne (is_acons (is_v 0) (is_acons (is_v 1) (is_acons (is_v 2) is_anil)))))
      (is_bcons (is_setL 4 sc_law_events.nd (is_lst is_anil))
      (is_bcons (is_for PassesOwn.never (is_rng2 (is_acons (is_v 2) (is_acons (is_len B.len_ (is_ix (hu_of hr) (is_v 0) is_int)) is_anil)) (by rfl) B.range_) (is_gname 5 sc_law_events.nd) (is_bcons (is_setLcD (i := 7) (own := [("row", 6), ("opens", 11), ("closes", 12)]) sc_law_events.nd (is_iseq (is_v 3)) (blkOk_by (own := [("row", 6), ("opens", 11), ("closes", 12)]) (N := ["problem", "setup", "first", "rows", "found", "batch", "row", "opened", "closed", "pairs", "kind", "opens", "closes", "trainer"]) (sc := defScope s_law_events) (by decide +kernel)) (fun _ _ _ _ _ => isG_t (is_gtup (is_gscons (is_gname 6 sc_law_events.nd) (is_gscons (is_gname 11 sc_law_events.nd) (is_gscons (is_gname 12 sc_law_events.nd) is_gsnil)))) (by dsimp only [Cx.blk] <;> exact rfl)) (fun _ _ _ _ _ => isTs_t (is_tsone (is_tcmp (op_eqX hr.units) r2_eq (is_v 11) (is_v 5) (nomark _))) (by dsimp only [Cx.blk] <;> exact rfl)) (fun _ _ _ _ _ => isE_t (is_v 6) (by dsimp only [Cx.blk] <;> exact rfl)))
      (is_bcons (is_setLcD (i := 8) (own := [("row", 6), ("opens", 11), ("closes", 12)]) sc_law_events.nd (is_iseq (is_v 3)) (blkOk_by (own := [("row", 6), ("opens", 11), ("closes", 12)]) (N := ["problem", "setup", "first", "rows", "found", "batch", "row", "opened", "closed", "pairs", "kind", "opens", "closes", "trainer"]) (sc := defScope s_law_events) (by decide +kernel)) (fun _ _ _ _ _ => isG_t (is_gtup (is_gscons (is_gname 6 sc_law_events.nd) (is_gscons (is_gname 11 sc_law_events.nd) (is_gscons (is_gname 12 sc_law_events.nd) is_gsnil)))) (by dsimp only [Cx.blk] <;> exact rfl)) (fun _ _ _ _ _ => isTs_t (is_tsone (is_tcmp (op_eqX hr.units) r2_eq (is_v 12) (is_v 5) (nomark _))) (by dsimp only [Cx.blk] <;> exact rfl)) (fun _ _ _ _ _ => isE_t (is_v 6) (by dsimp only [Cx.blk] <;> exact rfl)))
      (is_bcons (is_setL 9 sc_law_events.nd (is_lst is_anil))
      (is_bcons (is_for PassesOwn.never (is_rng1 (is_acons (is_len B.len_ (is_ix (hu_of hr) (is_v 0) is_int)) is_anil) (by rfl) B.range_) (is_gname 6 sc_law_events.nd) (is_bone (is_drop (is_extV 9 (is_l (is_lc (own := [("trainer", 13)]) sc_law_events.nd (is_iseq (is_callD d_law_users (hr.mono (by first | decide | exact Nat.le_refl _)) fnG_ne (is_acons (is_v 0) (is_acons (is_v 1) (is_acons (is_v 6) (is_acons (is_v 5) is_anil)))))) (blkOk_by (own := [("trainer", 13)]) (N := ["problem", "setup", "first", "rows", "found", "batch", "row", "opened", "closed", "pairs", "kind", "opens", "closes", "trainer"]) (sc := defScope s_law_events) (by decide +kernel)) (fun _ _ _ _ _ => isG_t (is_gname 13 sc_law_events.nd) (by dsimp only [Cx.blk] <;> exact rfl)) (fun _ _ _ _ _ => isTs_t is_tsnil (by dsimp only [Cx.blk] <;> exact rfl)) (fun _ _ _ _ _ => isE_t (is_tup (is_acons (is_v 6) (is_acons (is_v 13) is_anil))) (by dsimp only [Cx.blk] <;> exact rfl))))))))
      (is_bcons (is_for PassesOwn.never (is_iseq (is_l (is_lst (is_acons is_str (is_acons is_str (is_acons is_str is_anil)))))) (is_gname 10 sc_law_events.nd) (is_bone (is_drop (is_extV 4 (is_l (is_lc (own := [("row", 6)]) sc_law_events.nd (is_iseq (is_v 7)) (blkOk_by (own := [("row", 6)]) (N := ["problem", "setup", "first", "rows", "found", "batch", "row", "opened", "closed", "pairs", "kind", "opens", "closes", "trainer"]) (sc := defScope s_law_events) (by decide +kernel)) (fun _ _ _ _ _ => isG_t (is_gname 6 sc_law_events.nd) (by dsimp only [Cx.blk] <;> exact rfl)) (fun _ _ _ _ _ => isTs_t is_tsnil (by dsimp only [Cx.blk] <;> exact rfl)) (fun _ _ _ _ _ => isE_t (is_tup (is_acons (is_v 10) (is_acons (is_v 6) (is_acons (is_v 5) is_anil)))) (by dsimp only [Cx.blk] <;> exact rfl))))))))
      (is_bcons (is_drop (is_extV 4 (is_l (is_lc (own := [("row", 6), ("trainer", 13)]) sc_law_events.nd (is_iseq (is_v 9)) (blkOk_by (own := [("row", 6), ("trainer", 13)]) (N := ["problem", "setup", "first", "rows", "found", "batch", "row", "opened", "closed", "pairs", "kind", "opens", "closes", "trainer"]) (sc := defScope s_law_events) (by decide +kernel)) (fun _ _ _ _ _ => isG_t (is_gtup (is_gscons (is_gname 6 sc_law_events.nd) (is_gscons (is_gname 13 sc_law_events.nd) is_gsnil))) (by dsimp only [Cx.blk] <;> exact rfl)) (fun _ _ _ _ _ => isTs_t is_tsnil (by dsimp only [Cx.blk] <;> exact rfl)) (fun _ _ _ _ _ => isE_t (is_tup (is_acons is_str (is_acons (is_v 6) (is_acons (is_v 5) (is_acons (is_v 13) is_anil))))) (by dsimp only [Cx.blk] <;> exact rfl))))))
      (is_bcons (is_drop (is_extV 4 (is_l (is_lc (own := [("trainer", 13)]) sc_law_events.nd (is_rng1 (is_acons (is_ix (hu_of hr) (is_v 1) is_int) is_anil) (by rfl) B.range_) (blkOk_by (own := [("trainer", 13)]) (N := ["problem", "setup", "first", "rows", "found", "batch", "row", "opened", "closed", "pairs", "kind", "opens", "closes", "trainer"]) (sc := defScope s_law_events) (by decide +kernel)) (fun _ _ _ _ _ => isG_t (is_gname 13 sc_law_events.nd) (by dsimp only [Cx.blk] <;> exact rfl)) (fun _ _ _ _ _ => isTs_t is_tsnil (by dsimp only [Cx.blk] <;> exact rfl)) (fun _ _ _ _ _ => isE_t (is_tup (is_acons is_str (is_acons (is_v 13) (is_acons (is_v 5) is_anil)))) (by dsimp only [Cx.blk] <;> exact rfl))))))
      (is_bcons (is_drop (is_extV 4 (is_l (is_lc (own := [("row", 6), ("trainer", 13)]) sc_law_events.nd (is_iseq (is_v 9)) (blkOk_by (own := [("row", 6), ("trainer", 13)]) (N := ["problem", "setup", "first", "rows", "found", "batch", "row", "opened", "closed", "pairs", "kind", "opens", "closes", "trainer"]) (sc := defScope s_law_events) (by decide +kernel)) (fun _ _ _ _ _ => isG_t (is_gtup (is_gscons (is_gname 6 sc_law_events.nd) (is_gscons (is_gname 13 sc_law_events.nd) is_gsnil))) (by dsimp only [Cx.blk] <;> exact rfl)) (fun _ _ _ _ _ => isTs_t is_tsnil (by dsimp only [Cx.blk] <;> exact rfl)) (fun _ _ _ _ _ => isE_t (is_tup (is_acons is_str (is_acons (is_v 6) (is_acons (is_v 5) (is_acons (is_v 13) is_anil))))) (by dsimp only [Cx.blk] <;> exact rfl))))))
      (is_bone (is_for PassesOwn.never (is_iseq (is_l (is_lst (is_acons is_str (is_acons is_str is_anil))))) (is_gname 10 sc_law_events.nd) (is_bone (is_drop (is_extV 4 (is_l (is_lc (own := [("row", 6)]) sc_law_events.nd (is_iseq (is_v 8)) (blkOk_by (own := [("row", 6)]) (N := ["problem", "setup", "first", "rows", "found", "batch", "row", "opened", "closed", "pairs", "kind", "opens", "closes", "trainer"]) (sc := defScope s_law_events) (by decide +kernel)) (fun _ _ _ _ _ => isG_t (is_gname 6 sc_law_events.nd) (by dsimp only [Cx.blk] <;> exact rfl)) (fun _ _ _ _ _ => isTs_t is_tsnil (by dsimp only [Cx.blk] <;> exact rfl)) (fun _ _ _ _ _ => isE_t (is_tup (is_acons (is_v 10) (is_acons (is_v 6) (is_acons (is_v 5) is_anil)))) (by dsimp only [Cx.blk] <;> exact rfl))))))))))))))))))
      (is_bone (is_ret (is_tupleV 4 B.tuple_))))))⟩
/-! ### _law_is_cause -/
theorem sc_law_is_cause : FnScope ["problem", "setup", "first", "other", "event", "kind", "one", "batch", "ahead", "row", "earlier", "used", "follows", "t"] ["problem", "setup", "first", "other", "event"] (defScope s_law_is_cause) := ⟨rfl, rfl, rfl, by decide +kernel, rfl, by decide +kernel, by decide +kernel⟩
def g_law_is_cause : MS :=
  (sSeq (sAsg (eSl (eVar 4) (ret none) (bnd (eC (.int 3)) fun x => lft ((toI x).map some))) (gTupD 3 (gsCons (gSet 5) (gsCons (gSet 6) (gsCons (gSet 7) gsNil)))))
  (sSeq (sAsg (eSl (eVar 3) (ret none) (bnd (eC (.int 3)) fun x => lft ((toI x).map some))) (gTupD 3 (gsCons (gSet 8) (gsCons (gSet 9) (gsCons (gSet 10) gsNil)))))
  (sSeq (sAsg (eCall 3 G_law_uses (aCons (eVar 0) (aCons (eVar 2) (aCons (eVar 6) aNil)))) (gSet 11))
  (sSeq (sAsg (bnd (tOf (eOp gNe (eVar 8) (eC (.str "compute")))) fun b => if b then (bnd (tOf (eOp gEq (eVar 9) (eVar 6))) fun b => if b then (bnd (tOf (eOp (gIn false) (eVar 10) (eVar 11))) fun b => if b then (eOp gEq (eSl (eL (lLc [13] (iOf (eVar 11)) (gSet 13) (tOf (eOp (gC fun i j => decide (j < i)) (eVar 13) (eVar 10))) (eVar 13))) (ret none) (bnd (eC (.int 1)) fun x => lft ((toI x).map some))) (eL (lLst (aCons (eVar 7) aNil)))) else ret (.d (.bl false))) else ret (.d (.bl false))) else ret (.d (.bl false))) (gSet 12))
  (sSeq (sIf (tOf (eOp gEq (eVar 5) (eC (.str "request")))) (sRet (bnd (tOf (bnd (tOf (eOp gEq (eVar 8) (eC (.str "ack")))) fun b => if b then (eVar 12) else ret (.d (.bl false)))) fun b => if b then ret (.d (.bl true)) else (bnd (tOf (eOp gEq (eVar 8) (eC (.str "update")))) fun b => if b then (eOp (gC fun i j => decide (i ≤ j)) (eOp gAdd (eVar 10) (eIx (eVar 1) (eC (.int 1)))) (eVar 7)) else ret (.d (.bl false))))) sNext)
  (sSeq (sIf (tOf (eOp gEq (eVar 5) (eC (.str "value")))) (sSeq (sIf (tOf (eOp gEq (eVar 8) (eC (.str "reply")))) (sRet (bnd (tOf (eOp gEq (eVar 9) (eVar 6))) fun b => if b then (eOp gEq (eVar 10) (eVar 7)) else ret (.d (.bl false)))) sNext)
  (sRet (bnd (tOf (eOp gEq (eVar 8) (eC (.str "update")))) fun b => if b then (bnd (tOf (eVar 12)) fun b => if b then (eOp (gC fun i j => decide (i ≤ j)) (eVar 7) (eOp gAdd (eVar 10) (eIx (eVar 1) (eC (.int 1))))) else ret (.d (.bl false))) else ret (.d (.bl false))))) sNext)
  (sSeq (sIf (tOf (eOp gEq (eVar 5) (eC (.str "compute")))) (sSeq (sIf (tOf (eOp gEq (eVar 8) (eC (.str "compute")))) (sRet (bnd (tOf (eOp gEq (eVar 9) (eVar 6))) fun b => if b then (eOp gEq (eVar 10) (eOp gMinus (eVar 7) (eC (.int 1)))) else ret (.d (.bl false)))) sNext)
  (sSeq (sIf (tOf (eOp gEq (eVar 8) (eC (.str "value")))) (sRet (bnd (tOf (eOp gEq (eVar 10) (eVar 7))) fun b => if b then (eOp gEq (eIx (eVar 3) (eC (.int 3))) (eVar 6)) else ret (.d (.bl false)))) sNext)
  (sRet (bnd (tOf (eOp gEq (eVar 8) (eC (.str "update")))) fun b => if b then (eOp (gC fun i j => decide (i ≤ j)) (eOp gAdd (eVar 10) (eIx (eVar 1) (eC (.int 2)))) (eVar 7)) else ret (.d (.bl false)))))) sNext)
  (sSeq (sIf (tOf (eOp gEq (eVar 5) (eC (.str "update")))) (sRet (eOp gEq (eVar 3) (eTup (aCons (eC (.str "compute")) (aCons (eIx (eVar 4) (eC (.int 3))) (aCons (eVar 7) aNil)))))) sNext)
  (sSeq (sIf (tOf (eOp gEq (eVar 5) (eC (.str "write")))) (sRet (bnd (tOf (eOp gEq (eVar 8) (eC (.str "update")))) fun b => if b then (bnd (tOf (eOp gEq (eVar 9) (eVar 6))) fun b => if b then (eOp gEq (eVar 10) (eVar 7)) else ret (.d (.bl false))) else ret (.d (.bl false)))) sNext)
  (sRet (eOp gEq (eVar 3) (eTup (aCons (eIx (eDisp [("read", "request"), ("reply", "read"), ("ack", "write")]) (eVar 5)) (aCons (eVar 6) (aCons (eVar 7) aNil)))))))))))))))
def G_law_is_cause : Fn := fnG 14 (g_law_is_cause)
theorem d_law_is_cause {P : Program} {w : World} {K : PySem.W.Frag} {mg : Str → Option Value} {base : Heap} {fA : Addr} {fd : FuncData} (B : Bl mg) (d_law_uses : DefOk P w K mg base "_law_uses" 2 3 (G_law_uses)) (F : Fun K "_law_is_cause" "_law_is_cause" s_law_is_cause fA fd) (hm : mg "_law_is_cause" = some (.ref fA)) (b : Binds K fd ["problem", "setup", "first", "other", "event"] []) : DefOk P w K mg base "_law_is_cause" 3 5 G_law_is_cause := by
  refine def_ok F hm b sc_law_is_cause rfl fun cdv A outer s H E hr => ?_
  unfold g_law_is_cause
  exact ⟨_, (is_bcons (is_asg (is_sl (is_v 4) is_onone (is_osome is_int)) (is_gtup (is_gscons (is_gname 5 sc_law_is_cause.nd) (is_gscons (is_gname 6 sc_law_is_cause.nd) (is_gscons (is_gname 7 sc_law_is_cause.nd) is_gsnil)))))
      (is_bcons (is_asg (is_sl (is_v 3) is_onone (is_osome is_int)) (is_gtup (is_gscons (is_gname 8 sc_law_is_cause.nd) (is_gscons (is_gname 9 sc_law_is_cause.nd) (is_gscons (is_gname 10 sc_law_is_cause.nd) is_gsnil)))))
      (is_bcons (is_set 11 sc_law_is_cause.nd (is_callD d_law_uses (hr.mono (by first | decide | exact Nat.le_refl _)) fnG_ne (is_acons (is_v 0) (is_acons (is_v 2) (is_acons (is_v 6) is_anil)))))
      (is_bcons (is_set 12 sc_law_is_cause.nd (is_eand (is_cmp (op_neX hr.units) r2_ne (is_v 8) is_str (nomark _)) (is_eand (is_cmp (op_eqX hr.units) r2_eq (is_v 9) (is_v 6) (nomark _)) (is_eand (is_cmp op_in_seq (r2_in false) (is_v 10) (is_v 11) (by first | exact nomark _ | rfl)) (is_eand1 (is_cmp (op_eqX hr.units) r2_eq (is_sl (is_l (is_lc (own := [("t", 13)]) sc_law_is_cause.nd (is_iseq (is_v 11)) (blkOk_by (own := [("t", 13)]) (N := ["problem", "setup", "first", "other", "event", "kind", "one", "batch", "ahead", "row", "earlier", "used", "follows", "t"]) (sc := defScope s_law_is_cause) (by decide +kernel)) (fun _ _ _ _ _ => isG_t (is_gname 13 sc_law_is_cause.nd) (by dsimp only [Cx.blk] <;> exact rfl)) (fun _ _ _ _ _ => isTs_t (is_tsone (is_tcmp op_gt r2_C (is_v 13) (is_v 10) (nomark _))) (by dsimp only [Cx.blk] <;> exact rfl)) (fun _ _ _ _ _ => isE_t (is_v 13) (by dsimp only [Cx.blk] <;> exact rfl)))) is_onone (is_osome is_int)) (is_l (is_lst (is_acons (is_v 7) is_anil))) (nomark _)))))))
      (is_bcons (is_ifS (is_tcmp (op_eqX hr.units) r2_eq (is_v 5) is_str (nomark _)) (is_bone (is_ret (is_eor (is_eand (is_cmp (op_eqX hr.units) r2_eq (is_v 8) is_str (nomark _)) (is_eand1 (is_v 12))) (is_eand1 (is_eand (is_cmp (op_eqX hr.units) r2_eq (is_v 8) is_str (nomark _)) (is_eand1 (is_cmp op_le r2_C (is_add (is_v 10) (is_ix (hu_of hr) (is_v 1) is_int)) (is_v 7) (nomark _)))))))) is_bnil)
      (is_bcons (is_ifS (is_tcmp (op_eqX hr.units) r2_eq (is_v 5) is_str (nomark _)) (is_bcons (is_ifS (is_tcmp (op_eqX hr.units) r2_eq (is_v 8) is_str (nomark _)) (is_bone (is_ret (is_eand (is_cmp (op_eqX hr.units) r2_eq (is_v 9) (is_v 6) (nomark _)) (is_eand1 (is_cmp (op_eqX hr.units) r2_eq (is_v 10) (is_v 7) (nomark _)))))) is_bnil)
      (is_bone (is_ret (is_eand (is_cmp (op_eqX hr.units) r2_eq (is_v 8) is_str (nomark _)) (is_eand (is_v 12) (is_eand1 (is_cmp op_le r2_C (is_v 7) (is_add (is_v 10) (is_ix (hu_of hr) (is_v 1) is_int)) (nomark _)))))))) is_bnil)
      (is_bcons (is_ifS (is_tcmp (op_eqX hr.units) r2_eq (is_v 5) is_str (nomark _)) (is_bcons (is_ifS (is_tcmp (op_eqX hr.units) r2_eq (is_v 8) is_str (nomark _)) (is_bone (is_ret (is_eand (is_cmp (op_eqX hr.units) r2_eq (is_v 9) (is_v 6) (nomark _)) (is_eand1 (is_cmp (op_eqX hr.units) r2_eq (is_v 10) (is_sub (is_v 7) is_int) (nomark _)))))) is_bnil)
      (is_bcons (is_ifS (is_tcmp (op_eqX hr.units) r2_eq (is_v 8) is_str (nomark _)) (is_bone (is_ret (is_eand (is_cmp (op_eqX hr.units) r2_eq (is_v 10) (is_v 7) (nomark _)) (is_eand1 (is_cmp (op_eqX hr.units) r2_eq (is_ix (hu_of hr) (is_v 3) is_int) (is_v 6) (nomark _)))))) is_bnil)
      (is_bone (is_ret (is_eand (is_cmp (op_eqX hr.units) r2_eq (is_v 8) is_str (nomark _)) (is_eand1 (is_cmp op_le r2_C (is_add (is_v 10) (is_ix (hu_of hr) (is_v 1) is_int)) (is_v 7) (nomark _)))))))) is_bnil)
      (is_bcons (is_ifS (is_tcmp (op_eqX hr.units) r2_eq (is_v 5) is_str (nomark _)) (is_bone (is_ret (is_cmp (op_eqX hr.units) r2_eq (is_v 3) (is_tup (is_acons is_str (is_acons (is_ix (hu_of hr) (is_v 4) is_int) (is_acons (is_v 7) is_anil)))) (nomark _)))) is_bnil)
      (is_bcons (is_ifS (is_tcmp (op_eqX hr.units) r2_eq (is_v 5) is_str (nomark _)) (is_bone (is_ret (is_eand (is_cmp (op_eqX hr.units) r2_eq (is_v 8) is_str (nomark _)) (is_eand (is_cmp (op_eqX hr.units) r2_eq (is_v 9) (is_v 6) (nomark _)) (is_eand1 (is_cmp (op_eqX hr.units) r2_eq (is_v 10) (is_v 7) (nomark _))))))) is_bnil)
      (is_bone (is_ret (is_cmp (op_eqX hr.units) r2_eq (is_v 3) (is_tup (is_acons (is_ix (hu_of hr) (is_disp [("read", "request"), ("reply", "read"), ("ack", "write")] (pps_cons pe_str pe_str (pps_cons pe_str pe_str (pps_cons pe_str pe_str pps_nil)))) (is_v 5)) (is_acons (is_v 6) (is_acons (is_v 7) is_anil)))) (nomark _)))))))))))))⟩
/-! ### _law_page -/
theorem sc_law_page : FnScope [] [] (defScope s_law_page) := ⟨rfl, rfl, rfl, by decide +kernel, rfl, by decide +kernel, by decide +kernel⟩
def g_law_page : MS :=
  (sRet (eTup (aCons (eTup (aCons (eC (.int 5)) (aCons (eC (.int 0)) (aCons (eC (.int 2)) aNil)))) (aCons (eTup (aCons (eTup (aCons (eTup (aCons (eTup (aCons (eC (.int 0)) (aCons (eC (.int 1)) aNil))) (aCons (eC (.int 9)) aNil))) aNil)) (aCons (eTup (aCons (eTup (aCons (eTup (aCons (eC (.int 1)) aNil)) (aCons (eC (.int 5)) aNil))) (aCons (eTup (aCons (eTup (aCons (eC (.int 0)) aNil)) (aCons (eC (.int 0)) aNil))) aNil))) (aCons (eTup (aCons (eTup (aCons (eTup (aCons (eC (.int 0)) (aCons (eC (.int 2)) aNil))) (aCons (eC (.int 4)) aNil))) aNil)) aNil)))) (aCons (eC (.int 2)) (aCons (eC (.int 3)) aNil))))))
def G_law_page : Fn := fnG 0 (g_law_page)
theorem d_law_page {P : Program} {w : World} {K : PySem.W.Frag} {mg : Str → Option Value} {base : Heap} {fA : Addr} {fd : FuncData} (B : Bl mg)  (F : Fun K "_law_page" "_law_page" s_law_page fA fd) (hm : mg "_law_page" = some (.ref fA)) (b : Binds K fd [] []) : DefOk P w K mg base "_law_page" 1 0 G_law_page := by
  refine def_ok F hm b sc_law_page rfl fun cdv A outer s H E hr => ?_
  unfold g_law_page
  exact ⟨_, (is_bone (is_ret (is_tup (is_acons (is_tup (is_acons is_int (is_acons is_int (is_acons is_int is_anil)))) (is_acons (is_tup (is_acons (is_tup (is_acons (is_tup (is_acons (is_tup (is_acons is_int (is_acons is_int is_anil))) (is_acons is_int is_anil))) is_anil)) (is_acons (is_tup (is_acons (is_tup (is_acons (is_tup (is_acons is_int is_anil)) (is_acons is_int is_anil))) (is_acons (is_tup (is_acons (is_tup (is_acons is_int is_anil)) (is_acons is_int is_anil))) is_anil))) (is_acons (is_tup (is_acons (is_tup (is_acons (is_tup (is_acons is_int (is_acons is_int is_anil))) (is_acons is_int is_anil))) is_anil)) is_anil)))) (is_acons is_int (is_acons is_int is_anil)))))))⟩
/-! ### _law_known -/
theorem sc_law_known : FnScope ["problem", "setup", "first", "order", "causes", "event", "other"] ["problem", "setup", "first"] (defScope s_law_known) := ⟨rfl, rfl, rfl, by decide +kernel, rfl, by decide +kernel, by decide +kernel⟩
abbrev lb_law_known_0 : MS :=
  (sPutT 4 (eVar 5) (eL (lLc [6] (iOf (eVar 3)) (gSet 6) (tOf (eCall 5 G_law_is_cause (aCons (eVar 0) (aCons (eVar 1) (aCons (eVar 2) (aCons (eVar 6) (aCons (eVar 5) aNil))))))) (eVar 6))))
def g_law_known : MS :=
  (sSeq (sAsg (eCall 3 G_law_events (aCons (eVar 0) (aCons (eVar 1) (aCons (eVar 2) aNil)))) (gSet 3))
  (sSeq (sNewT 4)
  (sSeq (sFor (iOf (eVar 3)) (gSet 5) lb_law_known_0)
  (sRet (eVar 4)))))
def G_law_known : Fn := fnG 7 (g_law_known)
theorem d_law_known {P : Program} {w : World} {K : PySem.W.Frag} {mg : Str → Option Value} {base : Heap} {fA : Addr} {fd : FuncData} (B : Bl mg) (d_law_events : DefOk P w K mg base "_law_events" 4 3 (G_law_events)) (d_law_is_cause : DefOk P w K mg base "_law_is_cause" 3 5 (G_law_is_cause)) (F : Fun K "_law_known" "_law_known" s_law_known fA fd) (hm : mg "_law_known" = some (.ref fA)) (b : Binds K fd ["problem", "setup", "first"] []) : DefOk P w K mg base "_law_known" 5 3 G_law_known := by
  refine def_ok F hm b sc_law_known rfl fun cdv A outer s H E hr => ?_
  unfold g_law_known
  exact ⟨_, (is_bcons (is_set 3 sc_law_known.nd (is_callD d_law_events (hr.mono (by first | decide | exact Nat.le_refl _)) fnG_ne (is_acons (is_v 0) (is_acons (is_v 1) (is_acons (is_v 2) is_anil)))))
      (is_bcons (is_newT 4 sc_law_known.nd)
      (is_bcons (is_for PassesOwn.never (is_iseq (is_v 3)) (is_gname 5 sc_law_known.nd) (is_bone (is_putT 4 (hu_of hr) (is_v 5) (is_l (is_lc (own := [("other", 6)]) sc_law_known.nd (is_iseq (is_v 3)) (blkOk_by (own := [("other", 6)]) (N := ["problem", "setup", "first", "order", "causes", "event", "other"]) (sc := defScope s_law_known) (by decide +kernel)) (fun _ _ _ _ _ => isG_t (is_gname 6 sc_law_known.nd) (by dsimp only [Cx.blk] <;> exact rfl)) (fun _ _ _ _ _ => isTs_t (is_tsone (is_tval (is_callD d_law_is_cause (hr.mono (by first | decide | exact Nat.le_refl _)) fnG_ne (is_acons (is_v 0) (is_acons (is_v 1) (is_acons (is_v 2) (is_acons (is_v 6) (is_acons (is_v 5) is_anil)))))))) (by dsimp only [Cx.blk] <;> exact rfl)) (fun _ _ _ _ _ => isE_t (is_v 6) (by dsimp only [Cx.blk] <;> exact rfl)))))))
      (is_bone (is_ret (is_v 4))))))⟩
/-! ### _law_mixed -/
theorem sc_law_mixed : FnScope ["stream", "causes", "left", "done", "turn", "event", "ready", "other", "cause"] ["stream", "causes"] (defScope s_law_mixed) := ⟨rfl, rfl, rfl, by decide +kernel, rfl, by decide +kernel, by decide +kernel⟩
abbrev lb_law_mixed_0 : MS :=
  (sSeq (sAsg (eL (lLc [5] (iOf (eVar 2)) (gSet 5) (tOf (eOp gEq (eCB gLen (aCons (eL (lLc [8] (iOf (eIx (eVar 1) (eVar 5))) (gSet 8) (tOf (eOpB (gInD true) (eVar 8) 3)) (eVar 8))) aNil)) (eC (.int 0)))) (eVar 5))) (gSet 6))
  (sSeq (sAsg (eIx (eVar 6) (eOp gMod (eCall 2 G_law_next (aCons (eVar 0) (aCons (eC (.int 60)) aNil))) (eCB gLen (aCons (eVar 6) aNil)))) (gSet 5))
  (sSeq (sDrop (eM1V gApp 3 (eVar 5)))
  (sAsg (eL (lLc [7] (iOf (eVar 2)) (gSet 7) (tOf (eOp gNe (eVar 7) (eVar 5))) (eVar 7))) (gSet 2)))))
def g_law_mixed : MS :=
  (sSeq (sAsg (eL (lKeys (eVar 1))) (gSet 2))
  (sSeq (sSetL (lLst aNil) 3)
  (sSeq (sFor (bnd (aCons (eCB gLen (aCons (eVar 2) aNil)) aNil) fun xs => lft (rng1 xs)) (gSet 4) lb_law_mixed_0)
  (sRet (eVar 3)))))
def G_law_mixed : Fn := fnG 9 (g_law_mixed)
theorem d_law_mixed {P : Program} {w : World} {K : PySem.W.Frag} {mg : Str → Option Value} {base : Heap} {fA : Addr} {fd : FuncData} (B : Bl mg) (d_law_next : DefOk P w K mg base "_law_next" 1 2 (G_law_next)) (F : Fun K "_law_mixed" "_law_mixed" s_law_mixed fA fd) (hm : mg "_law_mixed" = some (.ref fA)) (b : Binds K fd ["stream", "causes"] []) : DefOk P w K mg base "_law_mixed" 2 2 G_law_mixed := by
  refine def_ok F hm b sc_law_mixed rfl fun cdv A outer s H E hr => ?_
  unfold g_law_mixed
  exact ⟨_, (is_bcons (is_set 2 sc_law_mixed.nd (is_l (is_keys (is_v 1) B.list_)))
      (is_bcons (is_setL 3 sc_law_mixed.nd (is_lst is_anil))
      (is_bcons (is_for PassesOwn.never (is_rng1 (is_acons (is_len B.len_ (is_v 2)) is_anil) (by rfl) B.range_) (is_gname 4 sc_law_mixed.nd) (is_bcons (is_setLcD (i := 6) (own := [("event", 5)]) sc_law_mixed.nd (is_iseq (is_v 2)) (blkOk_by (own := [("event", 5)]) (N := ["stream", "causes", "left", "done", "turn", "event", "ready", "other", "cause"]) (sc := defScope s_law_mixed) (by decide +kernel)) (fun _ _ _ _ _ => isG_t (is_gname 5 sc_law_mixed.nd) (by dsimp only [Cx.blk] <;> exact rfl)) (fun _ _ _ _ _ => isTs_t (is_tsone (is_tcmp (op_eqX hr.units) r2_eq (is_len B.len_ (is_l (is_lc (own := [("cause", 8)]) sc_law_mixed.nd (is_iseq (is_ix (hu_of hr) (is_v 1) (is_v 5))) (blkOk_rel (N := ["stream", "causes", "left", "done", "turn", "event", "ready", "other", "cause"]) (own := [("cause", 8)]) (blkOk_by (by decide +kernel))) (fun _ _ _ _ _ => isG_t (is_gname 8 sc_law_mixed.nd) (by dsimp only [Cx.blk] <;> exact rfl)) (fun _ _ _ _ _ => isTs_t (is_tsone (is_topB 3 (op_notInD (u65 hr)) r2_notInD (is_v 8) (by first | exact nomark _ | rfl))) (by dsimp only [Cx.blk] <;> exact rfl)) (fun _ _ _ _ _ => isE_t (is_v 8) (by dsimp only [Cx.blk] <;> exact rfl))))) is_int (nomark _))) (by dsimp only [Cx.blk] <;> exact rfl)) (fun _ _ _ _ _ => isE_t (is_v 5) (by dsimp only [Cx.blk] <;> exact rfl)))
      (is_bcons (is_set 5 sc_law_mixed.nd (is_ix (hu_of hr) (is_v 6) (is_mod (is_callD d_law_next (hr.mono (by first | decide | exact Nat.le_refl _)) fnG_ne (is_acons (is_v 0) (is_acons is_int is_anil))) (is_len B.len_ (is_v 6)))))
      (is_bcons (is_drop (is_appV 3 (is_v 5)))
      (is_bone (is_setLcD (i := 2) (own := [("other", 7)]) sc_law_mixed.nd (is_iseq (is_v 2)) (blkOk_by (own := [("other", 7)]) (N := ["stream", "causes", "left", "done", "turn", "event", "ready", "other", "cause"]) (sc := defScope s_law_mixed) (by decide +kernel)) (fun _ _ _ _ _ => isG_t (is_gname 7 sc_law_mixed.nd) (by dsimp only [Cx.blk] <;> exact rfl)) (fun _ _ _ _ _ => isTs_t (is_tsone (is_tcmp (op_neX hr.units) r2_ne (is_v 7) (is_v 5) (nomark _))) (by dsimp only [Cx.blk] <;> exact rfl)) (fun _ _ _ _ _ => isE_t (is_v 7) (by dsimp only [Cx.blk] <;> exact rfl))))))))
      (is_bone (is_ret (is_v 3))))))⟩
/-! ### _law_length -/
theorem sc_law_length : FnScope ["causes", "log", "k", "cause"] ["causes", "log"] (defScope s_law_length) := ⟨rfl, rfl, rfl, by decide +kernel, rfl, by decide +kernel, by decide +kernel⟩
abbrev lb_law_length_0 : MS :=
  (sSeq (sIf (tOrB (tOf (eOp (gDin true) (eIx (eVar 1) (eVar 2)) (eVar 0))) (tOf (eOp (gInD false) (eIx (eVar 1) (eVar 2)) (eSl (eVar 1) (ret none) (bnd (eVar 2) fun x => lft ((toI x).map some)))))) (sRet (eVar 2)) sNext)
  (sIf (tOf (eOp (gC fun i j => decide (j < i)) (eCB gLen (aCons (eL (lLc [3] (iOf (eIx (eVar 0) (eIx (eVar 1) (eVar 2)))) (gSet 3) (tOf (eOp (gInD true) (eVar 3) (eSl (eVar 1) (ret none) (bnd (eVar 2) fun x => lft ((toI x).map some))))) (eVar 3))) aNil)) (eC (.int 0)))) (sRet (eVar 2)) sNext))
def g_law_length : MS :=
  (sSeq (sFor (bnd (aCons (eCB gLen (aCons (eVar 1) aNil)) aNil) fun xs => lft (rng1 xs)) (gSet 2) lb_law_length_0)
  (sRet (eCB gLen (aCons (eVar 1) aNil))))
def G_law_length : Fn := fnG 4 (g_law_length)
theorem d_law_length {P : Program} {w : World} {K : PySem.W.Frag} {mg : Str → Option Value} {base : Heap} {fA : Addr} {fd : FuncData} (B : Bl mg)  (F : Fun K "_law_length" "_law_length" s_law_length fA fd) (hm : mg "_law_length" = some (.ref fA)) (b : Binds K fd ["causes", "log"] []) : DefOk P w K mg base "_law_length" 1 2 G_law_length := by
  refine def_ok F hm b sc_law_length rfl fun cdv A outer s H E hr => ?_
  unfold g_law_length
  exact ⟨_, (is_bcons (is_for PassesOwn.never (is_rng1 (is_acons (is_len B.len_ (is_v 1)) is_anil) (by rfl) B.range_) (is_gname 2 sc_law_length.nd) (is_bcons (is_ifS (is_tw (is_wor (is_tcmp (op_dnotin (hu_of hr)) (r2_din true) (is_ix (hu_of hr) (is_v 1) (is_v 2)) (is_v 0) (by first | exact nomark _ | rfl)) (is_wor1 (is_tcmp (op_inD (u65 hr)) r2_inD (is_ix (hu_of hr) (is_v 1) (is_v 2)) (is_sl (is_v 1) is_onone (is_osome (is_v 2))) (by first | exact nomark _ | rfl))))) (is_bone (is_ret (is_v 2))) is_bnil)
      (is_bone (is_ifS (is_tcmp op_gt r2_C (is_len B.len_ (is_l (is_lc (own := [("cause", 3)]) sc_law_length.nd (is_iseq (is_ix (hu_of hr) (is_v 0) (is_ix (hu_of hr) (is_v 1) (is_v 2)))) (blkOk_by (own := [("cause", 3)]) (N := ["causes", "log", "k", "cause"]) (sc := defScope s_law_length) (by decide +kernel)) (fun _ _ _ _ _ => isG_t (is_gname 3 sc_law_length.nd) (by dsimp only [Cx.blk] <;> exact rfl)) (fun _ _ _ _ _ => isTs_t (is_tsone (is_tcmp (op_notInD (u65 hr)) r2_notInD (is_v 3) (is_sl (is_v 1) is_onone (is_osome (is_v 2))) (by first | exact nomark _ | rfl))) (by dsimp only [Cx.blk] <;> exact rfl)) (fun _ _ _ _ _ => isE_t (is_v 3) (by dsimp only [Cx.blk] <;> exact rfl))))) is_int (nomark _)) (is_bone (is_ret (is_v 2))) is_bnil))))
      (is_bone (is_ret (is_len B.len_ (is_v 1)))))⟩
/-! ### law -/
theorem sc_law : FnScope ["script", "stream", "problem", "setup", "first", "causes", "log", "logs", "at", "other", "due", "known", "samples"] ["script"] (defScope s_law) := ⟨rfl, rfl, rfl, by decide +kernel, rfl, by decide +kernel, by decide +kernel⟩
abbrev lb_law_0 (C : Cl) : MS :=
  (sSeq (sAsg (eCall 2 G_law_length (aCons (eVar 5) (aCons (eVar 9) aNil))) (gSet 10))
  (sIf (tOrB (tNotB (tOf (eCall 2 (G_law_same 4) (aCons (eCall 4 (G_audit C) (aCons (eVar 2) (aCons (eVar 3) (aCons (eVar 4) (aCons (eVar 9) aNil))))) (aCons (eVar 10) aNil))))) (tNotB (tOf (eCall 2 (G_law_same 4) (aCons (eCall 4 (G_is_orderly C) (aCons (eVar 2) (aCons (eVar 3) (aCons (eVar 4) (aCons (eVar 9) aNil))))) (aCons (eOp gEq (eVar 10) (eCB gLen (aCons (eVar 9) aNil))) aNil)))))) (sRet (eC (.bl false))) sNext))
def g_law (C : Cl) : MS :=
  (sSeq (sAsg (eCall 3 G_law_stream (aCons (eVar 0) (aCons (eC (.int 0)) (aCons (eC (.int 30)) aNil)))) (gSet 1))
  (sSeq (sAsg (eCall 2 G_law_problem (aCons (eVar 1) (aCons (eC (.int 3)) aNil))) (gSet 2))
  (sSeq (sAsg (eTup (aCons (eIx (eVar 2) (eC (.int 0))) (aCons (eCB gTuple (aCons (eL (lLc [12] (iOf (eIx (eVar 2) (eC (.int 1)))) (gSet 12) (ret true) (eSl (eVar 12) (ret none) (bnd (eC (.int 2)) fun x => lft ((toI x).map some))))) aNil)) (aCons (eIx (eVar 2) (eC (.int 2))) (aCons (eIx (eVar 2) (eC (.int 3))) aNil))))) (gSet 2))
  (sSeq (sAsg (eTup (aCons (eOp gAdd (eC (.int 1)) (eCall 2 G_law_next (aCons (eVar 1) (aCons (eC (.int 2)) aNil)))) (aCons (eOp gAdd (eC (.int 1)) (eCall 2 G_law_next (aCons (eVar 1) (aCons (eC (.int 2)) aNil)))) (aCons (eOp gAdd (eC (.int 1)) (eCall 2 G_law_next (aCons (eVar 1) (aCons (eC (.int 2)) aNil)))) aNil)))) (gSet 3))
  (sSeq (sAsg (eIx (eL (lLst (aCons (eC (.int 0)) (aCons (eC (.int 0)) (aCons (eC (.int 1)) aNil))))) (eCall 2 G_law_next (aCons (eVar 1) (aCons (eC (.int 3)) aNil)))) (gSet 4))
  (sSeq (sAsg (eCall 3 G_law_known (aCons (eVar 2) (aCons (eVar 3) (aCons (eVar 4) aNil)))) (gSet 5))
  (sSeq (sAsg (eCall 2 G_law_mixed (aCons (eVar 1) (aCons (eVar 5) aNil))) (gSet 6))
  (sSeq (sIf (tOrB (tNotB (tOf (eCall 2 (G_law_same 4) (aCons (eCall 4 (G_audit C) (aCons (eVar 2) (aCons (eVar 3) (aCons (eVar 4) (aCons (eVar 6) aNil))))) (aCons (eCB gLen (aCons (eVar 6) aNil)) aNil))))) (tNotB (tOf (eCall 2 (G_law_same 4) (aCons (eCall 4 (G_is_orderly C) (aCons (eVar 2) (aCons (eVar 3) (aCons (eVar 4) (aCons (eVar 6) aNil))))) (aCons (eC (.bl true)) aNil)))))) (sRet (eC (.bl false))) sNext)
  (sSeq (sAsg (eL (lLst (aCons (eSl (eVar 6) (ret none) (bnd (eCall 2 G_law_next (aCons (eVar 1) (aCons (eC (.int 60)) aNil))) fun x => lft ((toI x).map some))) (aCons (eOp gAdd (eVar 6) (eSl (eVar 6) (ret none) (bnd (eC (.int 1)) fun x => lft ((toI x).map some)))) (aCons (eSl (eVar 6) (bnd (eC (.int 1)) fun x => lft ((toI x).map some)) (ret none)) (aCons (eOp gAdd (eL (lLst (aCons (eTup (aCons (eC (.str "compute")) (aCons (eC (.int 0)) (aCons (eC (.int 90)) aNil)))) aNil))) (eVar 6)) (aCons (eRevL (eVar 6)) aNil))))))) (gSet 7))
  (sSeq (sAsg (eOp gMod (eCall 2 G_law_next (aCons (eVar 1) (aCons (eC (.int 60)) aNil))) (eCB gMax (aCons (eC (.int 1)) (aCons (eCB gLen (aCons (eVar 6) aNil)) aNil)))) (gSet 8))
  (sSeq (sAsg (eOp gAdd (eVar 7) (eL (lLst (aCons (eOp gAdd (eOp gAdd (eOp gAdd (eSl (eVar 6) (ret none) (bnd (eVar 8) fun x => lft ((toI x).map some))) (eSl (eVar 6) (bnd (eOp gAdd (eVar 8) (eC (.int 1))) fun x => lft ((toI x).map some)) (bnd (eOp gAdd (eVar 8) (eC (.int 2))) fun x => lft ((toI x).map some)))) (eSl (eVar 6) (bnd (eVar 8) fun x => lft ((toI x).map some)) (bnd (eOp gAdd (eVar 8) (eC (.int 1))) fun x => lft ((toI x).map some)))) (eSl (eVar 6) (bnd (eOp gAdd (eVar 8) (eC (.int 2))) fun x => lft ((toI x).map some)) (ret none))) (aCons (eOp gAdd (eSl (eVar 6) (ret none) (bnd (eVar 8) fun x => lft ((toI x).map some))) (eSl (eVar 6) (bnd (eOp gAdd (eVar 8) (eC (.int 1))) fun x => lft ((toI x).map some)) (ret none))) (aCons (eOp gAdd (eOp gAdd (eSl (eVar 6) (ret none) (bnd (eVar 8) fun x => lft ((toI x).map some))) (eSl (eVar 6) (ret none) (bnd (eC (.int 1)) fun x => lft ((toI x).map some)))) (eSl (eVar 6) (bnd (eVar 8) fun x => lft ((toI x).map some)) (ret none))) (aCons (eOp gAdd (eOp gAdd (eSl (eVar 6) (ret none) (bnd (eVar 8) fun x => lft ((toI x).map some))) (eL (lLst (aCons (eTup (aCons (eC (.str "request")) (aCons (eC (.int 0)) (aCons (eC (.int 0)) (aCons (eC (.int 0)) aNil))))) aNil)))) (eSl (eVar 6) (bnd (eVar 8) fun x => lft ((toI x).map some)) (ret none))) aNil))))))) (gSet 7))
  (sSeq (sFor (iOf (eVar 7)) (gSet 9) (lb_law_0 C))
  (sSeq (sAsg (eL (lLst (aCons (eTup (aCons (eC (.str "request")) (aCons (eC (.int 0)) (aCons (eC (.int 0)) aNil)))) (aCons (eTup (aCons (eC (.str "read")) (aCons (eC (.int 0)) (aCons (eC (.int 0)) aNil)))) (aCons (eTup (aCons (eC (.str "value")) (aCons (eC (.int 0)) (aCons (eC (.int 0)) (aCons (eC (.int 0)) aNil))))) aNil))))) (gSet 11))
  (sSeq (sIf (tOrB (tOf (eOp gNe (eCall 4 (G_audit C) (aCons (eCall 0 G_law_page aNil) (aCons (eTup (aCons (eC (.int 2)) (aCons (eC (.int 1)) (aCons (eC (.int 1)) aNil)))) (aCons (eC (.int 0)) (aCons (eVar 11) aNil))))) (eC (.int 2)))) (tOrB (tOf (eOp gNe (eCall 4 (G_audit C) (aCons (eCall 0 G_law_page aNil) (aCons (eTup (aCons (eC (.int 2)) (aCons (eC (.int 1)) (aCons (eC (.int 1)) aNil)))) (aCons (eC (.int 0)) (aCons (eOp gAdd (eSl (eVar 11) (ret none) (bnd (eC (.int 2)) fun x => lft ((toI x).map some))) (eSl (eVar 11) (ret none) (bnd (eC (.int 1)) fun x => lft ((toI x).map some)))) aNil))))) (eC (.int 2)))) (tOf (eOp gNe (eCall 4 (G_audit C) (aCons (eCall 0 G_law_page aNil) (aCons (eTup (aCons (eC (.int 2)) (aCons (eC (.int 1)) (aCons (eC (.int 1)) aNil)))) (aCons (eC (.int 0)) (aCons (eL (lLst (aCons (eTup (aCons (eC (.str "compute")) (aCons (eC (.int 1)) (aCons (eC (.int 0)) aNil)))) aNil))) aNil))))) (eC (.int 1)))))) (sRet (eC (.bl false))) sNext)
  (sSeq (sIf (tOf (eCall 4 (G_is_orderly C) (aCons (eCall 0 G_law_page aNil) (aCons (eTup (aCons (eC (.int 2)) (aCons (eC (.int 1)) (aCons (eC (.int 1)) aNil)))) (aCons (eC (.int 0)) (aCons (eVar 11) aNil)))))) (sRet (eC (.bl false))) sNext)
  (sRet (bnd (tOf (eOp gEq (eCall 4 (G_audit C) (aCons (eCall 0 G_law_page aNil) (aCons (eTup (aCons (eC (.int 2)) (aCons (eC (.int 1)) (aCons (eC (.int 1)) aNil)))) (aCons (eC (.int 0)) (aCons (eL (lLst (aCons (eTup (aCons (eC (.str "request")) (aCons (eC (.int 1)) (aCons (eC (.int 1)) aNil)))) aNil))) aNil))))) (eC (.int 0)))) fun b => if b then (eOp gEq (eCall 4 (G_audit C) (aCons (eCall 0 G_law_page aNil) (aCons (eTup (aCons (eC (.int 2)) (aCons (eC (.int 1)) (aCons (eC (.int 1)) aNil)))) (aCons (eC (.int 3)) (aCons (eL (lLst aNil)) aNil))))) (eC (.int 0))) else ret (.d (.bl false)))))))))))))))))))
def G_law (C : Cl) : Fn := fnG 13 (g_law C)
theorem d_law {P : Program} {w : World} {K : PySem.W.Frag} {mg : Str → Option Value} {base : Heap} {fA : Addr} {fd : FuncData} (B : Bl mg) {C : Cl} (CO : ClOk K mg C) (d_law_stream : DefOk P w K mg base "_law_stream" 2 3 (G_law_stream)) (d_law_problem : DefOk P w K mg base "_law_problem" 2 2 (G_law_problem)) (d_law_next : DefOk P w K mg base "_law_next" 1 2 (G_law_next)) (d_law_known : DefOk P w K mg base "_law_known" 5 3 (G_law_known)) (d_law_mixed : DefOk P w K mg base "_law_mixed" 2 2 (G_law_mixed)) (d_law_same : DefOk P w K mg base "_law_same" 4 2 ((G_law_same 4))) (d_audit : DefOk P w K mg base "audit" 7 4 ((G_audit C))) (d_is_orderly : DefOk P w K mg base "is_orderly" 8 4 ((G_is_orderly C))) (d_law_length : DefOk P w K mg base "_law_length" 1 2 (G_law_length)) (d_law_page : DefOk P w K mg base "_law_page" 1 0 (G_law_page)) (F : Fun K "law" "law" s_law fA fd) : FnOk P w K mg base CX0 9 fA fd ["script"] (spF K 1 (G_law C)) := by
  refine fn_ok F sc_law fun cdv A outer s H E hr => ?_
  unfold g_law
  exact ⟨_, (is_bcons (is_set 1 sc_law.nd (is_callD d_law_stream (hr.mono (by first | decide | exact Nat.le_refl _)) fnG_ne (is_acons (is_v 0) (is_acons is_int (is_acons is_int is_anil)))))
      (is_bcons (is_set 2 sc_law.nd (is_callD d_law_problem (hr.mono (by first | decide | exact Nat.le_refl _)) fnG_ne (is_acons (is_v 1) (is_acons is_int is_anil))))
      (is_bcons (is_set 2 sc_law.nd (is_tup (is_acons (is_ix (hu_of hr) (is_v 2) is_int) (is_acons (is_tuple B.tuple_ (is_l (is_lc (own := [("samples", 12)]) sc_law.nd (is_iseq (is_ix (hu_of hr) (is_v 2) is_int)) (blkOk_by (own := [("samples", 12)]) (N := ["script", "stream", "problem", "setup", "first", "causes", "log", "logs", "at", "other", "due", "known", "samples"]) (sc := defScope s_law) (by decide +kernel)) (fun _ _ _ _ _ => isG_t (is_gname 12 sc_law.nd) (by dsimp only [Cx.blk] <;> exact rfl)) (fun _ _ _ _ _ => isTs_t is_tsnil (by dsimp only [Cx.blk] <;> exact rfl)) (fun _ _ _ _ _ => isE_t (is_sl (is_v 12) is_onone (is_osome is_int)) (by dsimp only [Cx.blk] <;> exact rfl))))) (is_acons (is_ix (hu_of hr) (is_v 2) is_int) (is_acons (is_ix (hu_of hr) (is_v 2) is_int) is_anil))))))
      (is_bcons (is_set 3 sc_law.nd (is_tup (is_acons (is_add is_int (is_callD d_law_next (hr.mono (by first | decide | exact Nat.le_refl _)) fnG_ne (is_acons (is_v 1) (is_acons is_int is_anil)))) (is_acons (is_add is_int (is_callD d_law_next (hr.mono (by first | decide | exact Nat.le_refl _)) fnG_ne (is_acons (is_v 1) (is_acons is_int is_anil)))) (is_acons (is_add is_int (is_callD d_law_next (hr.mono (by first | decide | exact Nat.le_refl _)) fnG_ne (is_acons (is_v 1) (is_acons is_int is_anil)))) is_anil)))))
      (is_bcons (is_set 4 sc_law.nd (is_ix (hu_of hr) (is_l (is_lst (is_acons is_int (is_acons is_int (is_acons is_int is_anil))))) (is_callD d_law_next (hr.mono (by first | decide | exact Nat.le_refl _)) fnG_ne (is_acons (is_v 1) (is_acons is_int is_anil)))))
      (is_bcons (is_set 5 sc_law.nd (is_callD d_law_known (hr.mono (by first | decide | exact Nat.le_refl _)) fnG_ne (is_acons (is_v 2) (is_acons (is_v 3) (is_acons (is_v 4) is_anil)))))
      (is_bcons (is_set 6 sc_law.nd (is_callD d_law_mixed (hr.mono (by first | decide | exact Nat.le_refl _)) fnG_ne (is_acons (is_v 1) (is_acons (is_v 5) is_anil))))
      (is_bcons (is_ifS (is_tw (is_wor (is_tnot (is_tval (is_callD d_law_same (hr.mono (by first | decide | exact Nat.le_refl _)) (G_law_same_ne _) (is_acons (is_callD d_audit (hr.mono (by first | decide | exact Nat.le_refl _)) fnG_ne (is_acons (is_v 2) (is_acons (is_v 3) (is_acons (is_v 4) (is_acons (is_v 6) is_anil))))) (is_acons (is_len B.len_ (is_v 6)) is_anil))))) (is_wor1 (is_tnot (is_tval (is_callD d_law_same (hr.mono (by first | decide | exact Nat.le_refl _)) (G_law_same_ne _) (is_acons (is_callD d_is_orderly (hr.mono (by first | decide | exact Nat.le_refl _)) fnG_ne (is_acons (is_v 2) (is_acons (is_v 3) (is_acons (is_v 4) (is_acons (is_v 6) is_anil))))) (is_acons is_bl is_anil)))))))) (is_bone (is_ret is_bl)) is_bnil)
      (is_bcons (is_set 7 sc_law.nd (is_l (is_lst (is_acons (is_sl (is_v 6) is_onone (is_osome (is_callD d_law_next (hr.mono (by first | decide | exact Nat.le_refl _)) fnG_ne (is_acons (is_v 1) (is_acons is_int is_anil))))) (is_acons (is_add (is_v 6) (is_sl (is_v 6) is_onone (is_osome is_int))) (is_acons (is_sl (is_v 6) (is_osome is_int) is_onone) (is_acons (is_add (is_l (is_lst (is_acons (is_tup (is_acons is_str (is_acons is_int (is_acons is_int is_anil)))) is_anil))) (is_v 6)) (is_acons (is_revL (is_v 6)) is_anil))))))))
      (is_bcons (is_set 8 sc_law.nd (is_mod (is_callD d_law_next (hr.mono (by first | decide | exact Nat.le_refl _)) fnG_ne (is_acons (is_v 1) (is_acons is_int is_anil))) (is_max2 B.max_ is_int (is_len B.len_ (is_v 6)))))
      (is_bcons (is_set 7 sc_law.nd (is_add (is_v 7) (is_l (is_lst (is_acons (is_add (is_add (is_add (is_sl (is_v 6) is_onone (is_osome (is_v 8))) (is_sl (is_v 6) (is_osome (is_add (is_v 8) is_int)) (is_osome (is_add (is_v 8) is_int)))) (is_sl (is_v 6) (is_osome (is_v 8)) (is_osome (is_add (is_v 8) is_int)))) (is_sl (is_v 6) (is_osome (is_add (is_v 8) is_int)) is_onone)) (is_acons (is_add (is_sl (is_v 6) is_onone (is_osome (is_v 8))) (is_sl (is_v 6) (is_osome (is_add (is_v 8) is_int)) is_onone)) (is_acons (is_add (is_add (is_sl (is_v 6) is_onone (is_osome (is_v 8))) (is_sl (is_v 6) is_onone (is_osome is_int))) (is_sl (is_v 6) (is_osome (is_v 8)) is_onone)) (is_acons (is_add (is_add (is_sl (is_v 6) is_onone (is_osome (is_v 8))) (is_l (is_lst (is_acons (is_tup (is_acons is_str (is_acons is_int (is_acons is_int (is_acons is_int is_anil))))) is_anil)))) (is_sl (is_v 6) (is_osome (is_v 8)) is_onone)) is_anil))))))))
      (is_bcons (is_for PassesOwn.never (is_iseq (is_v 7)) (is_gname 9 sc_law.nd) (is_bcons (is_set 10 sc_law.nd (is_callD d_law_length (hr.mono (by first | decide | exact Nat.le_refl _)) fnG_ne (is_acons (is_v 5) (is_acons (is_v 9) is_anil))))
      (is_bone (is_ifS (is_tw (is_wor (is_tnot (is_tval (is_callD d_law_same (hr.mono (by first | decide | exact Nat.le_refl _)) (G_law_same_ne _) (is_acons (is_callD d_audit (hr.mono (by first | decide | exact Nat.le_refl _)) fnG_ne (is_acons (is_v 2) (is_acons (is_v 3) (is_acons (is_v 4) (is_acons (is_v 9) is_anil))))) (is_acons (is_v 10) is_anil))))) (is_wor1 (is_tnot (is_tval (is_callD d_law_same (hr.mono (by first | decide | exact Nat.le_refl _)) (G_law_same_ne _) (is_acons (is_callD d_is_orderly (hr.mono (by first | decide | exact Nat.le_refl _)) fnG_ne (is_acons (is_v 2) (is_acons (is_v 3) (is_acons (is_v 4) (is_acons (is_v 9) is_anil))))) (is_acons (is_cmp (op_eqX hr.units) r2_eq (is_v 10) (is_len B.len_ (is_v 9)) (nomark _)) is_anil)))))))) (is_bone (is_ret is_bl)) is_bnil))))
      (is_bcons (is_set 11 sc_law.nd (is_l (is_lst (is_acons (is_tup (is_acons is_str (is_acons is_int (is_acons is_int is_anil)))) (is_acons (is_tup (is_acons is_str (is_acons is_int (is_acons is_int is_anil)))) (is_acons (is_tup (is_acons is_str (is_acons is_int (is_acons is_int (is_acons is_int is_anil))))) is_anil))))))
      (is_bcons (is_ifS (is_tw (is_wor (is_tcmp (op_neX hr.units) r2_ne (is_callD d_audit (hr.mono (by first | decide | exact Nat.le_refl _)) fnG_ne (is_acons (is_callD0 d_law_page (hr.mono (by first | decide | exact Nat.le_refl _)) fnG_ne) (is_acons (is_tup (is_acons is_int (is_acons is_int (is_acons is_int is_anil)))) (is_acons is_int (is_acons (is_v 11) is_anil))))) is_int (nomark _)) (is_wor (is_tcmp (op_neX hr.units) r2_ne (is_callD d_audit (hr.mono (by first | decide | exact Nat.le_refl _)) fnG_ne (is_acons (is_callD0 d_law_page (hr.mono (by first | decide | exact Nat.le_refl _)) fnG_ne) (is_acons (is_tup (is_acons is_int (is_acons is_int (is_acons is_int is_anil)))) (is_acons is_int (is_acons (is_add (is_sl (is_v 11) is_onone (is_osome is_int)) (is_sl (is_v 11) is_onone (is_osome is_int))) is_anil))))) is_int (nomark _)) (is_wor1 (is_tcmp (op_neX hr.units) r2_ne (is_callD d_audit (hr.mono (by first | decide | exact Nat.le_refl _)) fnG_ne (is_acons (is_callD0 d_law_page (hr.mono (by first | decide | exact Nat.le_refl _)) fnG_ne) (is_acons (is_tup (is_acons is_int (is_acons is_int (is_acons is_int is_anil)))) (is_acons is_int (is_acons (is_l (is_lst (is_acons (is_tup (is_acons is_str (is_acons is_int (is_acons is_int is_anil)))) is_anil))) is_anil))))) is_int (nomark _)))))) (is_bone (is_ret is_bl)) is_bnil)
      (is_bcons (is_ifS (is_tval (is_callD d_is_orderly (hr.mono (by first | decide | exact Nat.le_refl _)) fnG_ne (is_acons (is_callD0 d_law_page (hr.mono (by first | decide | exact Nat.le_refl _)) fnG_ne) (is_acons (is_tup (is_acons is_int (is_acons is_int (is_acons is_int is_anil)))) (is_acons is_int (is_acons (is_v 11) is_anil)))))) (is_bone (is_ret is_bl)) is_bnil)
      (is_bone (is_ret (is_eand (is_cmp (op_eqX hr.units) r2_eq (is_callD d_audit (hr.mono (by first | decide | exact Nat.le_refl _)) fnG_ne (is_acons (is_callD0 d_law_page (hr.mono (by first | decide | exact Nat.le_refl _)) fnG_ne) (is_acons (is_tup (is_acons is_int (is_acons is_int (is_acons is_int is_anil)))) (is_acons is_int (is_acons (is_l (is_lst (is_acons (is_tup (is_acons is_str (is_acons is_int (is_acons is_int is_anil)))) is_anil))) is_anil))))) is_int (nomark _)) (is_eand1 (is_cmp (op_eqX hr.units) r2_eq (is_callD d_audit (hr.mono (by first | decide | exact Nat.le_refl _)) fnG_ne (is_acons (is_callD0 d_law_page (hr.mono (by first | decide | exact Nat.le_refl _)) fnG_ne) (is_acons (is_tup (is_acons is_int (is_acons is_int (is_acons is_int is_anil)))) (is_acons is_int (is_acons (is_l (is_lst is_anil)) is_anil))))) is_int (nomark _)))))))))))))))))))))⟩
end Den

namespace Den
open PySem PySem.Spec PyProof.Rows L2
open Evl (Ex)
structure Pb where
  rows : List Int
  bs : List (List (List Int × Int))
  dv : Int
  cl : Int
abbrev Sm := List Int × Int
def smD (s : Sm) : D := .tup [.tup (il s.1), .int s.2]
def btD (b : List Sm) : D := .tup (b.map smD)
def pbD (p : Pb) : D := .tup [.tup (il p.rows), .tup (p.bs.map btD), .int p.dv, .int p.cl]
def okS (n : Nat) (s : Sm) : Prop := s.1 ≠ [] ∧ s.1.length ≤ 3 ∧ (∀ r ∈ s.1, 0 ≤ r ∧ r < n) ∧ s.1.Nodup ∧ -20 ≤ s.2 ∧ s.2 ≤ 20
theorem iota_range : ∀ (n : Nat) (lo : Int), iota lo n = (List.range n).map fun i => .int (lo + i)
  | 0, _ => rfl
  | n + 1, lo => by
    rw [iota, iota_range n, List.range_succ_eq_map, List.map_cons, List.map_map]
    congr 1
    · simp
    · refine List.map_congr_left fun i _ => ?_
      show D.int _ = D.int _
      congr 1
      simp
      omega
def okB (n : Nat) (b : List Sm) : Prop := b.length ≤ 5 ∧ ∀ s ∈ b, okS n s
structure okP (p : Pb) : Prop where
  n0 : 0 < p.rows.length
  n : p.rows.length ≤ 5
  r : ∀ r ∈ p.rows, -10 ≤ r ∧ r ≤ 10
  b0 : 0 < p.bs.length
  b : p.bs.length ≤ 20
  bs : ∀ b ∈ p.bs, okB p.rows.length b
  dv : 1 ≤ p.dv ∧ p.dv ≤ 3
  cl : 1 ≤ p.cl ∧ p.cl ≤ 6
def tpD (l : List Int) : D := .tup (il l)
theorem ixD_tp {l : List Int} {i : Int} (h0 : 0 ≤ i) (h1 : i < l.length) : ixD (tpD l) (.int i) = some (.int (l.getD i.toNat 0)) := atI_il h0 h1
theorem ixD_ls {l : List Int} {i : Int} (h0 : 0 ≤ i) (h1 : i < l.length) : ixD (.lst (il l)) (.int i) = some (.int (l.getD i.toNat 0)) := atI_il h0 h1
/-! ### the draws -/
def wS (dg : List Int) (pl : Int) : List WO := [.lst [.d (.int pl)], .lst [.d (.lst (il dg)), .h 0]]
theorem next_ok {dg : List Int} {pl many : Int} (hd : dg ≠ []) (hm : 0 < many) : ∃ v, 0 ≤ v ∧ v < many ∧ G_law_next [.h 1, .d (.int many)] (wS dg pl) = some (.ok (.d (.int v)), wS dg (pl + 1)) := by
  have hl : 0 < dg.length := List.length_pos_iff.mpr hd
  have hp : (0 : Int) < (il dg).length := by rw [il_len]; omega
  have h0 : 0 ≤ pl % ((il dg).length : Int) := Int.emod_nonneg _ (by omega)
  have h1 : pl % ((il dg).length : Int) < dg.length := by
    have := Int.emod_lt_of_pos pl hp
    rw [il_len] at this ⊢
    exact this
  refine ⟨(dg.getD (pl % ((il dg).length : Int)).toNat 0) % many, Int.emod_nonneg _ (by omega), Int.emod_lt_of_pos _ hm, ?_⟩
  exact fnG_rt (q := ⟨_, wS dg (pl + 1)⟩) (sSeq_to (sAsg_ok (eIx_ok rfl rfl rfl) rfl) (sSeq_to (sAsg_ok (eIx_ok rfl rfl rfl) rfl) (sSeq_to (sAsg_ok (eOp_ok (eCB1_ok (eIx_d rfl (eOp_ok (eCB1_ok (eIx_ok rfl rfl rfl) rfl) (eCB1_ok rfl rfl) (by rw [gMod, gI]; simp only [if_pos hp]; rfl)) (ixD_ls h0 h1)) rfl) rfl (by rw [gMod, gI]; simp only [if_pos hm]; rfl)) rfl) (sSeq_to (by rfl) (sRet_ok rfl)))))
theorem gMul_ok {i j : Int} (h : -18446744073709551616 < j ∧ j < 18446744073709551616) : gMul (.int i) (.int j) = some (.int (i * j)) := by
  have e : mulOk i j = true := by
    unfold mulOk
    have h64 : (2 : Int) ^ 64 = 18446744073709551616 := by decide
    rw [h64]
    exact decide_eq_true (Or.inr h)
  unfold gMul gI
  simp only [e]
  rfl
theorem gMod_ok {i j : Int} (h : 0 < j) : gMod (.int i) (.int j) = some (.int (i % j)) := by
  unfold gMod gI
  simp only [if_pos h]
  rfl
theorem il_app {l : List Int} {x : Int} : il l ++ [.int x] = il (l ++ [x]) := by simp [il]
theorem small_lt {n k : Nat} (h : n < k) (hk : k ≤ 100000) : n < big := Nat.lt_of_lt_of_le h hk
theorem app_il {l : List Int} {x : Int} (h : l.length < 100000) : gApp (il l) (.int x) = some (.non, il (l ++ [x])) := by
  rw [gApp_ok (by rw [il_len]; exact h), il_app]
theorem draws_ok (c : Int) (w : List WO) : ∃ l : List Int, l.length = 12 ∧ G_law_draws [.d (.int c), .d (.int 12)] w = some (.ok (.d (.lst (il l))), w) := by
  obtain ⟨num, hn⟩ : ∃ num, num = if c < 0 then -c else c := ⟨_, rfl⟩
  obtain ⟨gr, hg⟩ : ∃ gr, gr = decide (((10 : Int) ^ 18) ≤ num) := ⟨_, rfl⟩
  have hl : ∃ l num' x5 x6, l.length = 12 ∧ loopD (gSet 5) lb_law_draws_0 (iota 0 60) ⟨[.dat (.int c), .dat (.int 12), .dat (.int num), .dat (.bl gr), .ol [], .un, .un], w⟩ = some (.nx ⟨[.dat (.int c), .dat (.int 12), .dat (.int num'), .dat (.bl gr), .ol (il l), x5, x6], w⟩) := by
    obtain ⟨q, h1, k, acc, num', x5, x6, h2, h3, h4, h5⟩ := loopD_inv (a := gSet 5) (g := lb_law_draws_0)
      (fun ds q => ∃ (k : Nat) (acc : List Int) (num : Int) (x5 x6 : Sl), k ≤ 60 ∧ ds = iota k (60 - k) ∧ q = ⟨[.dat (.int c), .dat (.int 12), .dat (.int num), .dat (.bl gr), .ol (il acc), x5, x6], w⟩ ∧ acc.length = min k 12)
      (fun d ds q ⟨k, acc, num, x5, x6, e1, e2, e3, e4⟩ => by
        have hk : k < 60 := by
          rcases Nat.lt_or_ge k 60 with h | h
          · exact h
          · rw [show 60 - k = 0 by omega] at e2
            cases e2
        obtain ⟨m, hm⟩ : ∃ m, 60 - k = m + 1 := ⟨59 - k, by omega⟩
        rw [hm, iota] at e2
        obtain ⟨rfl, rfl⟩ := List.cons.inj e2
        subst e3
        have hds : iota ((k : Int) + 1) m = iota ((k + 1 : Nat) : Int) (60 - (k + 1)) := by
          rw [show m = 60 - (k + 1) by omega]
          congr 1
        by_cases h12 : k < 12
        · have c1 : gC (fun i j => decide (i < j)) (.int (k : Int)) (.int 12) = some (.bl true) := by
            show some (D.bl (decide ((k : Int) < 12))) = _
            rw [decide_eq_true (by omega)]
          have hb : acc.length < 100000 := by omega
          cases gr with
          | true =>
            exact ⟨_, _, rfl, sIf_t (tAnd_t (tOf_ok (eOp_ok rfl rfl c1)) (tOf_ok rfl)) (sSeq_to (sDrop_ok (eM1V_ok rfl (eOp_ok rfl rfl (gMod_ok (by decide))) rfl (app_il hb))) (sAsg_ok (eOp_ok rfl rfl rfl) rfl)), k + 1, _, _, _, _, by omega, hds, rfl, by simp; omega⟩
          | false =>
            exact ⟨_, _, rfl, sIf_f (tAnd_t (tOf_ok (eOp_ok rfl rfl c1)) (tOf_ok rfl)) (sIf_t (tOf_ok (eOp_ok rfl rfl c1)) (sSeq_to (sAsg_ok (eOp_ok (eOp_ok (eOp_ok (eOp_ok (eCB1_ok rfl rfl) rfl (gMul_ok (by decide))) (eOp_ok rfl rfl (gMul_ok (by decide))) rfl) rfl rfl) rfl (gMod_ok (by decide))) rfl)
              (sSeq_to (sAsg_ok (eOp_ok (eOp_ok (eOp_ok (eOp_ok (eCB1_ok rfl rfl) (eCB1_ok rfl rfl) (gMul_ok ⟨by
                have := Int.emod_nonneg (num * 48271 + k * 69621 + 11) (b := 2147483647) (by decide)
                omega, by
                have := Int.emod_lt_of_pos (num * 48271 + k * 69621 + 11) (b := 2147483647) (by decide)
                omega⟩)) (eOp_ok rfl rfl (gMul_ok (by decide))) rfl) rfl rfl) rfl (gMod_ok (by decide))) rfl)
              (sDrop_ok (eM1V_ok rfl (eOp_ok (eCB1_ok rfl rfl) rfl (gMod_ok (by decide))) rfl (app_il hb)))))), k + 1, _, _, _, _, by omega, hds, rfl, by simp; omega⟩
        · have c1 : gC (fun i j => decide (i < j)) (.int (k : Int)) (.int 12) = some (.bl false) := by
            show some (D.bl (decide ((k : Int) < 12))) = _
            rw [decide_eq_false (by omega)]
          exact ⟨_, _, rfl, sIf_f (tAnd_f (tOf_ok (eOp_ok rfl rfl c1))) (sIf_f (tOf_ok (eOp_ok rfl rfl c1)) rfl), k + 1, acc, num, _, _, by omega, hds, rfl, by omega⟩)
      (iota 0 60) _ ⟨0, [], num, .un, .un, by omega, rfl, rfl, rfl⟩
    have hk : k = 60 := by
      rcases Nat.lt_or_ge k 60 with h | h
      · obtain ⟨m, hm⟩ : ∃ m, 60 - k = m + 1 := ⟨59 - k, by omega⟩
        rw [hm] at h3
        cases h3
      · omega
    subst hk
    exact ⟨acc, num', x5, x6, h5, h1.trans (by rw [h4])⟩
  obtain ⟨l, num', x5, x6, h1, h2⟩ := hl
  refine ⟨l, h1, ?_⟩
  have hr : (bnd (aCons (eC (.int 60)) aNil) fun xs => lft (rng1 xs)) ⟨[.dat (.int c), .dat (.int 12), .dat (.int num), .dat (.bl gr), .ol [], .un, .un], w⟩ = some (.ok (iota 0 60), ⟨[.dat (.int c), .dat (.int 12), .dat (.int num), .dat (.bl gr), .ol [], .un, .un], w⟩) := rng_len (n := 60) rfl (by omega)
  have hp : gPow (.int 10) (.int 18) = some (.int (10 ^ 18)) := by
    unfold gPow gI
    simp only []
    rw [if_pos (by decide)]
    rfl
  exact fnG_rt (q := ⟨_, w⟩) (sSeq_to (sAsg_ok (eCB1_ok (eCB1_ok rfl rfl) (by rw [gAbs, ← hn])) rfl) (sSeq_to (sAsg_ok (eOp_ok rfl (eOp_ok rfl rfl hp) (by rw [gC, ← hg])) rfl) (sSeq_to (sSetL_ok (lLst_ok rfl rfl (Nat.zero_le _)) (by exact (show 4 < 7 by decide))) (sSeq_to (sFor_ok hr h2) (sRet_ok rfl)))))
theorem cell_ok {sc : List Int} {k : Nat} {w : List WO} : ∃ c, G_law_cell [.d (.seq (il sc)), .d (.int k)] w = some (.ok (.d (.int c)), w) := by
  have hlen : gLen [.seq (il sc)] = some (.int sc.length) := congrArg (fun k : Nat => some (D.int k)) il_len
  by_cases h : k < sc.length
  · have c1 : gC (fun i j => decide (i < j)) (.int (k : Int)) (.int sc.length) = some (.bl true) := by
      show some (D.bl (decide ((k : Int) < sc.length))) = _
      rw [decide_eq_true (by omega)]
    have ki : ixD (.seq (il sc)) (.int (k : Int)) = some (.int (sc.getD (k : Int).toNat 0)) := atI_il (by omega) (by omega)
    have hs : sIf (tOf (eOp (gC fun i j => decide (i < j)) (eVar 1) (eCB gLen (aCons (eVar 0) aNil)))) (sRet (eCB gInt (aCons (eIx (eVar 0) (eVar 1)) aNil))) sNext (fnQ 2 [.d (.seq (il sc)), .d (.int k)] w) = some (.rt (.d (.int (sc.getD (k : Int).toNat 0))) (fnQ 2 [.d (.seq (il sc)), .d (.int k)] w)) :=
      sIf_t (tOf_ok (eOp_ok rfl (eCB1_ok rfl hlen) c1)) (sRet_ok (eCB1_ok (eIx_d rfl rfl ki) rfl))
    refine ⟨_, fnG_rt (q := fnQ 2 [.d (.seq (il sc)), .d (.int k)] w) (x := .d (.int (sc.getD (k : Int).toNat 0))) ?_⟩
    unfold g_law_cell
    simp only [sSeq, hs]
  · have c1 : gC (fun i j => decide (i < j)) (.int (k : Int)) (.int sc.length) = some (.bl false) := by
      show some (D.bl (decide ((k : Int) < sc.length))) = _
      rw [decide_eq_false (by omega)]
    exact ⟨0, fnG_rt (q := fnQ 2 [.d (.seq (il sc)), .d (.int k)] w) (sSeq_to (sIf_f (tOf_ok (eOp_ok rfl (eCB1_ok rfl hlen) c1)) rfl) (sRet_ok rfl))⟩
theorem ext_il {l m : List Int} (h : l.length + m.length ≤ 100000) : gExt (il l) (.lst (il m)) = some (.non, il (l ++ m)) := by
  show (if (il l).length + (il m).length ≤ big then some (D.non, il l ++ il m) else none) = _
  rw [if_pos (show (il l).length + (il m).length ≤ big by rw [il_len, il_len]; exact h)]
  simp [il]
theorem stream_ok (sc : List Int) : ∃ dg : List Int, dg ≠ [] ∧ G_law_stream [.d (.seq (il sc)), .d (.int 0), .d (.int 30)] [] = some (.ok (.h 1), wS dg 0) := by
  have hl : ∃ l x4, l.length = 360 ∧ loopD (gSet 4) lb_law_stream_0 (iota 0 30) ⟨[.dat (.seq (il sc)), .dat (.int 0), .dat (.int 30), .ol [], .un], []⟩ = some (.nx ⟨[.dat (.seq (il sc)), .dat (.int 0), .dat (.int 30), .ol (il l), x4], []⟩) := by
    obtain ⟨q, h1, k, acc, x4, h2, h3, h4, h5⟩ := loopD_inv (a := gSet 4) (g := lb_law_stream_0)
      (fun ds q => ∃ (k : Nat) (acc : List Int) (x4 : Sl), k ≤ 30 ∧ ds = iota k (30 - k) ∧ q = ⟨[.dat (.seq (il sc)), .dat (.int 0), .dat (.int 30), .ol (il acc), x4], []⟩ ∧ acc.length = 12 * k)
      (fun d ds q ⟨k, acc, x4, e1, e2, e3, e4⟩ => by
        have hk : k < 30 := by
          rcases Nat.lt_or_ge k 30 with h | h
          · exact h
          · rw [show 30 - k = 0 by omega] at e2
            cases e2
        obtain ⟨m, hm⟩ : ∃ m, 30 - k = m + 1 := ⟨29 - k, by omega⟩
        rw [hm, iota] at e2
        obtain ⟨rfl, rfl⟩ := List.cons.inj e2
        subst e3
        have hds : iota ((k : Int) + 1) m = iota ((k + 1 : Nat) : Int) (30 - (k + 1)) := by
          rw [show m = 30 - (k + 1) by omega]
          congr 1
        obtain ⟨c, hc⟩ := cell_ok (sc := sc) (k := k) (w := [])
        obtain ⟨l, hl, hdr⟩ := draws_ok c []
        have ha : gAdd (.int 0) (.int (k : Int)) = some (.int (k : Int)) := by
          show some (D.int (0 + (k : Int))) = _
          rw [Int.zero_add]
        exact ⟨_, _, rfl, sDrop_ok (eM1V_ok rfl (eCall_w (aCons_ok (eCall_w (aCons_ok rfl (aCons_ok (eOp_ok rfl rfl ha) rfl)) rfl hc) (aCons_ok rfl rfl)) rfl hdr) rfl (ext_il (by omega))), k + 1, _, _, by omega, hds, rfl, by simp; omega⟩)
      (iota 0 30) _ ⟨0, [], .un, by omega, rfl, rfl, rfl⟩
    have hk : k = 30 := by
      rcases Nat.lt_or_ge k 30 with h | h
      · obtain ⟨m, hm⟩ : ∃ m, 30 - k = m + 1 := ⟨29 - k, by omega⟩
        rw [hm] at h3
        cases h3
      · omega
    subst hk
    exact ⟨acc, x4, h5, h1.trans (by rw [h4])⟩
  obtain ⟨l, x4, h1, h2⟩ := hl
  refine ⟨l, ?_, ?_⟩
  · intro z
    rw [z] at h1
    cases h1
  have hr : (bnd (aCons (eVar 2) aNil) fun xs => lft (rng1 xs)) ⟨[.dat (.seq (il sc)), .dat (.int 0), .dat (.int 30), .ol [], .un], []⟩ = some (.ok (iota 0 30), ⟨[.dat (.seq (il sc)), .dat (.int 0), .dat (.int 30), .ol [], .un], []⟩) := rng_len (n := 30) rfl (by omega)
  exact fnG_rt (q := ⟨[.dat (.seq (il sc)), .dat (.int 0), .dat (.int 30), .dat (.lst (il l)), x4], wS l 0⟩) (sSeq_to (sSetL_ok (lLst_ok rfl rfl (Nat.zero_le _)) (by exact (show 3 < 5 by decide))) (sSeq_to (sFor_ok hr h2) (sRet_ok rfl)))
theorem eNext {fa : ME (List XV)} {q q1 : Stt} {dg : List Int} {pl many : Int} (hd : dg ≠ []) (hm : 0 < many) (h : fa q = some (.ok [.h 1, .d (.int many)], q1)) (hw : q1.w = wS dg pl) :
    ∃ v, 0 ≤ v ∧ v < many ∧ eCall 2 G_law_next fa q = some (.ok (.d (.int v)), { q1 with w := wS dg (pl + 1) }) := by
  obtain ⟨v, h0, h1, h2⟩ := next_ok (dg := dg) (pl := pl) hd hm
  rw [← hw] at h2
  exact ⟨v, h0, h1, eCall_ok h rfl h2⟩
theorem to_ilP {P : Int → Prop} : ∀ (xs : List D), (∀ x ∈ xs, ∃ i, x = .int i ∧ P i) → ∃ l, xs = il l ∧ ∀ i ∈ l, P i
  | [], _ => ⟨[], rfl, by simp⟩
  | x :: xs, h => by
    obtain ⟨i, rfl, hi⟩ := h x (by simp)
    obtain ⟨l, rfl, hl⟩ := to_ilP xs fun y m => h y (by simp [m])
    exact ⟨i :: l, rfl, by simpa using ⟨hi, hl⟩⟩
theorem to_il : ∀ (xs : List D), (∀ x ∈ xs, ∃ i, x = .int i) → ∃ l, xs = il l
  | [], _ => ⟨[], rfl⟩
  | x :: xs, h => by
    obtain ⟨i, rfl⟩ := h x (by simp)
    obtain ⟨l, rfl⟩ := to_il xs fun y m => h y (by simp [m])
    exact ⟨i :: l, rfl⟩
theorem eCBV_ok {g : List D → Option D} {i : Nat} {q : Stt} {d z : D} (h : peek q i = some d) (h1 : g [d] = some z) : eCBV g i q = some (.ok (.d z), q) := by
  simp only [eCBV, h, Option.bind, h1, Option.map]
theorem erase_il : ∀ (l : List Int) (k : Nat), (il l).eraseIdx k = il (l.eraseIdx k)
  | [], _ => rfl
  | x :: l, 0 => rfl
  | x :: l, k + 1 => by
    show D.int x :: (il l).eraseIdx k = _
    rw [erase_il l k]
    rfl
theorem erase_perm : ∀ (l : List Int) (k : Nat), k < l.length → (l.getD k 0 :: l.eraseIdx k).Perm l
  | [], _, h => by cases h
  | x :: l, 0, _ => List.Perm.refl _
  | x :: l, k + 1, h => (List.Perm.swap _ _ _).trans ((erase_perm l k (by simpa using h)).cons x)
theorem pop_il {l : List Int} {v : Int} (h0 : 0 ≤ v) (h1 : v < l.length) (hb : l.length ≤ 100000) : gPopAt (il l) (.int v) = some (.int (l.getD v.toNat 0), il (l.eraseIdx v.toNat)) := by
  have hv : v.toNat < l.length := by omega
  show (if 0 ≤ v ∧ v < (il l).length ∧ (il l).length ≤ big then _ else _) = _
  rw [if_pos ⟨h0, by rw [il_len]; exact h1, by rw [il_len]; exact hb⟩]
  have e : (il l)[v.toNat]? = some (.int (l.getD v.toNat 0)) := by simp [il, hv]
  rw [e, erase_il]
  rfl
theorem lRng_ok {f : ME XV} {q q1 : Stt} {n : Nat} (h : f q = some (.ok (.d (.int n)), q1)) (hn : n ≤ 100000) : lRng f q = some (.ok (iota 0 n), q1) := by
  have h62 : -(2 ^ 62 : Int) ≤ (n : Int) ∧ (n : Int) ≤ 100000 := ⟨(rng_in hn).1, by omega⟩
  have e : lft (if -(2 ^ 62 : Int) ≤ (n : Int) ∧ (n : Int) ≤ 100000 then some (iota 0 (Int.toNat n)) else none) q1 = some (.ok (iota 0 n), q1) := by
    rw [if_pos h62, Int.toNat_natCast]
    rfl
  unfold lRng
  exact bnd_of h e
theorem sSetL_to {f : ME (List D)} {i : Nat} {q q1 q2 : Stt} {ds : List D} (h : f q = some (.ok ds, q1)) (hi : i < q1.sl.length) (e : ({ q1 with sl := q1.sl.set i (.ol ds) } : Stt) = q2) : sSetL f i q = some (.nx q2) := e ▸ sSetL_ok h hi
def ns (n : Nat) : List Int := (List.range n).map fun i : Nat => (i : Int)
theorem iota_ns {n : Nat} : iota 0 n = il (ns n) := by
  rw [iota_range, il, ns, List.map_map]
  refine List.map_congr_left fun i _ => ?_
  simp
theorem problem_0 {dg : List Int} {R : Nat} {x2 x3 x4 x5 x6 : Sl} {m : D} (hd : dg ≠ []) (ds : List D) (left : List Int) (pl : Int) (x9 : Sl) (hl : ∀ r ∈ left, 0 ≤ r ∧ r < R) (hnd : left.Nodup) (hn : ds.length ≤ left.length) (hb : left.length ≤ 100) (hds : ds.length ≤ 10) :
    ∃ left' chosen pl' x9', loopD (gSet 9) lb_law_problem_0 ds ⟨[.hnd 1, .dat m, x2, x3, x4, x5, x6, .ol (il left), .ol [], x9], wS dg pl⟩ = some (.nx ⟨[.hnd 1, .dat m, x2, x3, x4, x5, x6, .ol (il left'), .ol (il chosen), x9'], wS dg pl'⟩) ∧ chosen.length = ds.length ∧ (∀ r ∈ chosen, 0 ≤ r ∧ r < R) ∧ chosen.Nodup := by
  obtain ⟨q, h1, left', chosen, pl', x9', h2, h3, h4, h5, h6, h7, h8⟩ := loopD_inv (a := gSet 9) (g := lb_law_problem_0)
    (fun es q => ∃ (left chosen : List Int) (pl : Int) (x9 : Sl), q = ⟨[.hnd 1, .dat m, x2, x3, x4, x5, x6, .ol (il left), .ol (il chosen), x9], wS dg pl⟩ ∧ (∀ r ∈ left, 0 ≤ r ∧ r < R) ∧ (∀ r ∈ chosen, 0 ≤ r ∧ r < R) ∧ es.length ≤ left.length ∧ left.length ≤ 100 ∧ chosen.length + es.length = ds.length ∧ (left ++ chosen).Nodup)
    (fun d es q ⟨left, chosen, pl, x9, e1, e2, e3, e4, e5, e6, e7⟩ => by
      subst e1
      have hpos : 0 < left.length := by simp at e4; omega
      have hlen : gLen [.lst (il left)] = some (.int left.length) := congrArg (fun k : Nat => some (D.int k)) il_len
      obtain ⟨v, v0, v1, hv⟩ := eNext (fa := aCons (eVar 0) (aCons (eCBV gLen 7) aNil)) (q := ⟨[.hnd 1, .dat m, x2, x3, x4, x5, x6, .ol (il left), .ol (il chosen), toSl (.d d)], wS dg pl⟩) (pl := pl) hd (show (0 : Int) < left.length by omega) (aCons_ok rfl (aCons_ok (eCBV_ok rfl hlen) rfl)) rfl
      have hp := pop_il v0 v1 (by omega)
      have hmem : left.getD v.toNat 0 ∈ left := by
        have hv : v.toNat < left.length := by omega
        rw [List.getD_eq_getElem?_getD, List.getElem?_eq_getElem hv]
        exact List.getElem_mem _
      refine ⟨_, _, rfl, sDrop_ok (eM1V_ok rfl (eM1V_ok rfl hv rfl hp) rfl (app_il (by omega))), left.eraseIdx v.toNat, chosen ++ [left.getD v.toNat 0], pl + 1, _, rfl, fun r hr => e2 r (List.mem_of_mem_eraseIdx hr), ?_, ?_, ?_, ?_, ?_⟩
      · intro r hr
        rcases List.mem_append.mp hr with hr | hr
        · exact e3 r hr
        · rw [List.mem_singleton.mp hr]
          exact e2 _ hmem
      · rw [List.length_eraseIdx, if_pos (by omega)]
        simp at e4
        omega
      · rw [List.length_eraseIdx, if_pos (by omega)]
        omega
      · simp at e6 ⊢
        omega
      · have hv' : v.toNat < left.length := by omega
        have p1 := erase_perm left v.toNat hv'
        have p2 : (left.eraseIdx v.toNat ++ (chosen ++ [left.getD v.toNat 0])).Perm (left ++ chosen) :=
          ((List.perm_append_comm.append_left _).trans List.perm_middle).trans (p1.append_right chosen)
        exact p2.nodup_iff.mpr e7)
    ds _ ⟨left, [], pl, x9, rfl, hl, by simp, hn, hb, by simp, by simpa using hnd⟩
  exact ⟨left', chosen, pl', x9', h1.trans (by rw [h2]), by simpa using h7, h4, (List.nodup_append.mp h8).2.1⟩
theorem ns_mem {n : Nat} {r : Int} (h : r ∈ ns n) : 0 ≤ r ∧ r < n := by
  obtain ⟨i, hi, rfl⟩ := List.mem_map.mp h
  have := List.mem_range.mp hi
  exact ⟨by omega, by omega⟩
theorem ns_nd {n : Nat} : (ns n).Nodup := List.Pairwise.map _ (fun a b h z => h (Int.ofNat.inj z)) List.nodup_range
theorem ns_len {n : Nat} : (ns n).length = n := by simp [ns]
theorem gMin_nat {a b : Nat} : gMin [.int (a : Int), .int (b : Int)] = some (.int ((min a b : Nat) : Int)) := by
  show some (D.int (if (b : Int) < a then (b : Int) else a)) = _
  by_cases h : b < a
  · rw [if_pos (by omega), Nat.min_eq_right (by omega)]
  · rw [if_neg (by omega), Nat.min_eq_left (by omega)]
theorem gAdd1 {v : Int} (h : 0 ≤ v) : gAdd (.int 1) (.int v) = some (.int ((v.toNat + 1 : Nat) : Int)) := by
  show some (D.int (1 + v)) = _
  congr 2
  omega
theorem problem_1 {dg rows : List Int} {x3 x4 x5 : Sl} {m : D} (hd : dg ≠ []) (hR : 0 < rows.length) (hR2 : rows.length ≤ 10) (ds : List D) (pl : Int) (x2 x7 x8 x9 : Sl) (hds : ds.length ≤ 5) :
    ∃ (ss : List Sm) (pl' : Int) (x2' x7' x8' x9' : Sl), loopD (gSet 2) lb_law_problem_1 ds ⟨[.hnd 1, .dat m, x2, .dat (tpD rows), x4, x5, .ol [], x7, x8, x9], wS dg pl⟩ = some (.nx ⟨[.hnd 1, .dat m, x2', .dat (tpD rows), x4, x5, .ol (ss.map smD), x7', x8', x9'], wS dg pl'⟩) ∧ okB rows.length ss := by
  obtain ⟨q, h1, ss, pl', x2', x7', x8', x9', h2, h3, h4⟩ := loopD_inv (a := gSet 2) (g := lb_law_problem_1)
    (fun es q => ∃ (ss : List Sm) (pl : Int) (x2 x7 x8 x9 : Sl), q = ⟨[.hnd 1, .dat m, x2, .dat (tpD rows), x4, x5, .ol (ss.map smD), x7, x8, x9], wS dg pl⟩ ∧ (∀ s ∈ ss, okS rows.length s) ∧ ss.length + es.length ≤ 5)
    (fun d es q ⟨ss, pl, x2, x7, x8, x9, e1, e2, e3⟩ => by
      subst e1
      have hlen : gLen [tpD rows] = some (.int rows.length) := congrArg (fun k : Nat => some (D.int k)) il_len
      obtain ⟨v, v0, v1, hv⟩ := eNext (fa := aCons (eVar 0) (aCons (eC (.int 3)) aNil)) (q := ⟨[.hnd 1, .dat m, toSl (.d d), .dat (tpD rows), x4, x5, .ol (ss.map smD), .ol (il (ns rows.length)), .ol [], x9], wS dg pl⟩) (pl := pl) hd (show (0 : Int) < 3 by decide) (aCons_ok rfl (aCons_ok rfl rfl)) rfl
      obtain ⟨left', ch, pl2, x9', hl, hcl, hcm, hcn⟩ := problem_0 (dg := dg) (R := rows.length) (x2 := toSl (.d d)) (x3 := .dat (tpD rows)) (x4 := x4) (x5 := x5) (x6 := .ol (ss.map smD)) (m := m) hd (iota 0 (min rows.length (v.toNat + 1))) (ns rows.length) (pl + 1) x9 (fun r h => ns_mem h) ns_nd (by rw [iota_len, ns_len]; exact Nat.min_le_left _ _) (by rw [ns_len]; omega) (by rw [iota_len]; omega)
      rw [iota_len] at hcl
      obtain ⟨u, u0, u1, hu⟩ := eNext (fa := aCons (eVar 0) (aCons (eC (.int 41)) aNil)) (q := ⟨[.hnd 1, .dat m, toSl (.d d), .dat (tpD rows), x4, x5, .ol (ss.map smD), .ol (il left'), .ol (il ch), x9'], wS dg pl2⟩) (pl := pl2) hd (show (0 : Int) < 41 by decide) (aCons_ok rfl (aCons_ok rfl rfl)) rfl
      have h7 : sSetL (lRng (eCB gLen (aCons (eVar 3) aNil))) 7 ⟨[.hnd 1, .dat m, toSl (.d d), .dat (tpD rows), x4, x5, .ol (ss.map smD), x7, x8, x9], wS dg pl⟩ = some (.nx ⟨[.hnd 1, .dat m, toSl (.d d), .dat (tpD rows), x4, x5, .ol (ss.map smD), .ol (il (ns rows.length)), x8, x9], wS dg pl⟩) := by
        rw [← iota_ns]
        exact sSetL_to (lRng_ok (eCB1_ok rfl hlen) (by omega)) (by exact (show 7 < 10 by decide)) rfl
      have hss : (ss.map smD).length < big := by
        rw [List.length_map]
        simp at e3
        exact small_lt (show ss.length < 10 by omega) (by decide)
      have htu : eTup (aCons (eCBV gTuple 8) (aCons (eOp gMinus (eCall 2 G_law_next (aCons (eVar 0) (aCons (eC (.int 41)) aNil))) (eC (.int 20))) aNil)) ⟨[.hnd 1, .dat m, toSl (.d d), .dat (tpD rows), x4, x5, .ol (ss.map smD), .ol (il left'), .ol (il ch), x9'], wS dg pl2⟩
          = some (.ok (.d (smD (ch, u - 20))), ⟨[.hnd 1, .dat m, toSl (.d d), .dat (tpD rows), x4, x5, .ol (ss.map smD), .ol (il left'), .ol (il ch), x9'], wS dg (pl2 + 1)⟩) :=
        eTup_ok (aCons_ok (eCBV_ok rfl rfl) (aCons_ok (eOp_ok hu rfl rfl) rfl)) rfl (show 2 ≤ big by decide)
      refine ⟨_, _, rfl, sSeq_to h7 (sSeq_to (sSetL_ok (lLst_ok rfl rfl (Nat.zero_le _)) (by exact (show 8 < 10 by decide))) (sSeq_to (sFor_ok (rng_len (eCB2_ok (eCB1_ok rfl hlen) (eOp_ok rfl hv (gAdd1 v0)) gMin_nat) (by omega)) hl) (sDrop_ok (eM1V_ok rfl htu rfl (gApp_ok hss))))), ss ++ [(ch, u - 20)], pl2 + 1, toSl (.d d), .ol (il left'), .ol (il ch), x9', ?_, ?_, ?_⟩
      · rw [List.map_append]
        rfl
      · intro s hs
        rcases List.mem_append.mp hs with hs | hs
        · exact e2 s hs
        · rw [List.mem_singleton.mp hs]
          refine ⟨fun z => ?_, ?_, hcm, hcn, by show -20 ≤ u - 20; omega, by show u - 20 ≤ 20; omega⟩
          · have z' : ch = [] := z
            rw [z'] at hcl
            have : 0 = min rows.length (v.toNat + 1) := hcl
            omega
          · show ch.length ≤ 3
            omega
      · simp at e3 ⊢
        omega)
    ds _ ⟨[], pl, x2, x7, x8, x9, rfl, by simp, by simpa using hds⟩
  exact ⟨ss, pl', x2', x7', x8', x9', h1.trans (by rw [h2]), by simpa using h4, h3⟩
theorem sel7 {v : Int} (h0 : 0 ≤ v) (h1 : v < 7) : ∃ n : Nat, n ≤ 5 ∧ ixD (.lst (il [0, 1, 1, 2, 2, 3, 5])) (.int v) = some (.int n) := by
  have : v = 0 ∨ v = 1 ∨ v = 2 ∨ v = 3 ∨ v = 4 ∨ v = 5 ∨ v = 6 := by omega
  rcases this with rfl | rfl | rfl | rfl | rfl | rfl | rfl
  · exact ⟨0, by omega, rfl⟩
  · exact ⟨1, by omega, rfl⟩
  · exact ⟨1, by omega, rfl⟩
  · exact ⟨2, by omega, rfl⟩
  · exact ⟨2, by omega, rfl⟩
  · exact ⟨3, by omega, rfl⟩
  · exact ⟨5, by omega, rfl⟩
theorem problem_2 {dg rows : List Int} {x3 : Sl} {m : D} (hd : dg ≠ []) (hR : 0 < rows.length) (hR2 : rows.length ≤ 10) (ds : List D) (pl : Int) (x2 x5 x6 x7 x8 x9 : Sl) (hds : ds.length ≤ 20) :
    ∃ (bs : List (List Sm)) (pl' : Int) (x2' x5' x6' x7' x8' x9' : Sl), loopD (gSet 5) lb_law_problem_2 ds ⟨[.hnd 1, .dat m, x2, .dat (tpD rows), .ol [], x5, x6, x7, x8, x9], wS dg pl⟩ = some (.nx ⟨[.hnd 1, .dat m, x2', .dat (tpD rows), .ol (bs.map btD), x5', x6', x7', x8', x9'], wS dg pl'⟩) ∧ bs.length = ds.length ∧ ∀ b ∈ bs, okB rows.length b := by
  obtain ⟨q, h1, bs, pl', x2', x5', x6', x7', x8', x9', h2, h3, h4⟩ := loopD_inv (a := gSet 5) (g := lb_law_problem_2)
    (fun es q => ∃ (bs : List (List Sm)) (pl : Int) (x2 x5 x6 x7 x8 x9 : Sl), q = ⟨[.hnd 1, .dat m, x2, .dat (tpD rows), .ol (bs.map btD), x5, x6, x7, x8, x9], wS dg pl⟩ ∧ (∀ b ∈ bs, okB rows.length b) ∧ bs.length + es.length = ds.length)
    (fun d es q ⟨bs, pl, x2, x5, x6, x7, x8, x9, e1, e2, e3⟩ => by
      subst e1
      obtain ⟨v, v0, v1, hv⟩ := eNext (fa := aCons (eVar 0) (aCons (eC (.int 7)) aNil)) (q := ⟨[.hnd 1, .dat m, x2, .dat (tpD rows), .ol (bs.map btD), toSl (.d d), .ol [], x7, x8, x9], wS dg pl⟩) (pl := pl) hd (show (0 : Int) < 7 by decide) (aCons_ok rfl (aCons_ok rfl rfl)) rfl
      obtain ⟨n, hn, hi⟩ := sel7 v0 v1
      obtain ⟨ss, pl2, x2', x7', x8', x9', hl, hss⟩ := problem_1 (dg := dg) (rows := rows) (x3 := x3) (x4 := .ol (bs.map btD)) (x5 := toSl (.d d)) (m := m) hd hR hR2 (iota 0 n) (pl + 1) x2 x7 x8 x9 (by rw [iota_len]; omega)
      have hbs : (bs.map btD).length < big := by
        rw [List.length_map]
        simp at e3
        exact small_lt (show bs.length < 20 by omega) (by decide)
      refine ⟨_, _, rfl, sSeq_to (sSetL_ok (lLst_ok rfl rfl (Nat.zero_le _)) (by exact (show 6 < 10 by decide))) (sSeq_to (sFor_ok (rng_len (eIx_d (eL_ok (lLst_ok rfl rfl (show 7 ≤ big by decide))) hv hi) (by omega)) hl) (sDrop_ok (eM1V_ok rfl (eCBV_ok rfl rfl) rfl (gApp_ok hbs)))), bs ++ [ss], pl2, x2', toSl (.d d), .ol (ss.map smD), x7', x8', x9', ?_, ?_, ?_⟩
      · rw [List.map_append]
        rfl
      · intro b hb
        rcases List.mem_append.mp hb with hb | hb
        · exact e2 b hb
        · rw [List.mem_singleton.mp hb]
          exact hss
      · simp at e3 ⊢
        omega)
    ds _ ⟨[], pl, x2, x5, x6, x7, x8, x9, rfl, by simp, by simp⟩
  exact ⟨bs, pl', x2', x5', x6', x7', x8', x9', h1.trans (by rw [h2]), by simpa using h4, h3⟩
theorem problem_ok {dg : List Int} {M : Int} (hd : dg ≠ []) (hM : 0 < M ∧ M ≤ 20) (pl : Int) : ∃ p pl', okP p ∧ p.bs.length ≤ M ∧ G_law_problem [.h 1, .d (.int M)] (wS dg pl) = some (.ok (.d (pbD p)), wS dg pl') := by
  obtain ⟨v, v0, v1, hv⟩ := eNext (fa := aCons (eVar 0) (aCons (eC (.int 5)) aNil)) (q := fnQ 10 [.h 1, .d (.int M)] (wS dg pl)) (pl := pl) hd (show (0 : Int) < 5 by decide) (aCons_ok rfl (aCons_ok rfl rfl)) rfl
  have hf : (bnd (aCons (eOp gAdd (eC (.int 1)) (eCall 2 G_law_next (aCons (eVar 0) (aCons (eC (.int 5)) aNil)))) aNil) fun xs => lft (rng1 xs)) (fnQ 10 [.h 1, .d (.int M)] (wS dg pl)) = some (.ok (iota 0 (v.toNat + 1)), ⟨[.hnd 1, .dat (.int M), .un, .un, .un, .un, .un, .un, .un, .un], wS dg (pl + 1)⟩) :=
    rng_len (eOp_ok rfl hv (gAdd1 v0)) (by omega)
  obtain ⟨xs, q', hc, hxl, hxi, pl2, hq⟩ := lLc_rel (vs := [2]) (a := gSet 2) (gt := ret true) (fe := eOp gMinus (eCall 2 G_law_next (aCons (eVar 0) (aCons (eC (.int 21)) aNil))) (eC (.int 10))) (fun d => ∃ i, d = .int i ∧ -10 ≤ i ∧ i ≤ 10) (fun q => ∃ pl, q = ⟨[.hnd 1, .dat (.int M), .un, .un, .un, .un, .un, .un, .un, .un], wS dg pl⟩) hf (by rw [iota_len]; exact Nat.le_trans (show v.toNat + 1 ≤ 10 by omega) (by decide))
    (fun d _ q ⟨pl, e⟩ => by
      subst e
      obtain ⟨u, u0, u1, hu⟩ := eNext (fa := aCons (eVar 0) (aCons (eC (.int 21)) aNil)) (q := ⟨[.hnd 1, .dat (.int M), toSl (.d d), .un, .un, .un, .un, .un, .un, .un], wS dg pl⟩) (pl := pl) hd (show (0 : Int) < 21 by decide) (aCons_ok rfl (aCons_ok rfl rfl)) rfl
      exact ⟨_, _, _, _, rfl, rfl, eOp_ok hu rfl rfl, ⟨u - 10, rfl, by omega, by omega⟩, pl + 1, rfl⟩) ⟨pl + 1, rfl⟩
  subst hq
  obtain ⟨rows, rfl, hrow⟩ := to_ilP xs hxi
  rw [il_len, iota_len] at hxl
  obtain ⟨u, u0, u1, hu⟩ := eNext (fa := aCons (eVar 0) (aCons (eVar 1) aNil)) (q := ⟨[.hnd 1, .dat (.int M), .un, .dat (tpD rows), .ol [], .un, .un, .un, .un, .un], wS dg pl2⟩) (pl := pl2) hd (hM.1) (aCons_ok rfl (aCons_ok rfl rfl)) rfl
  obtain ⟨bs, pl3, x2, x5, x6, x7, x8, x9, hl, hbl, hbb⟩ := problem_2 (dg := dg) (rows := rows) (x3 := .un) (m := .int M) hd (by omega) (by omega) (iota 0 (u.toNat + 1)) (pl2 + 1) .un .un .un .un .un .un (by rw [iota_len]; omega)
  obtain ⟨a, a0, a1, ha⟩ := eNext (fa := aCons (eVar 0) (aCons (eC (.int 3)) aNil)) (q := ⟨[.hnd 1, .dat (.int M), x2, .dat (tpD rows), .ol (bs.map btD), x5, x6, x7, x8, x9], wS dg pl3⟩) (pl := pl3) hd (show (0 : Int) < 3 by decide) (aCons_ok rfl (aCons_ok rfl rfl)) rfl
  obtain ⟨b, b0, b1, hb⟩ := eNext (fa := aCons (eVar 0) (aCons (eC (.int 6)) aNil)) (q := ⟨[.hnd 1, .dat (.int M), x2, .dat (tpD rows), .ol (bs.map btD), x5, x6, x7, x8, x9], wS dg (pl3 + 1)⟩) (pl := pl3 + 1) hd (show (0 : Int) < 6 by decide) (aCons_ok rfl (aCons_ok rfl rfl)) rfl
  rw [iota_len] at hbl
  refine ⟨⟨rows, bs, 1 + a, 1 + b⟩, pl3 + 1 + 1, ⟨by show 0 < rows.length; omega, by show rows.length ≤ 5; omega, hrow, by show 0 < bs.length; omega, by show bs.length ≤ 20; omega, hbb, ⟨by show 1 ≤ 1 + a; omega, by show 1 + a ≤ 3; omega⟩, ⟨by show 1 ≤ 1 + b; omega, by show 1 + b ≤ 6; omega⟩⟩, by show (bs.length : Int) ≤ M; omega, ?_⟩
  exact fnG_rt (q := ⟨_, wS dg (pl3 + 1 + 1)⟩) (sSeq_to (sAsg_ok (eCB1_ok (eL_ok hc) rfl) rfl) (sSeq_to (sSetL_ok (lLst_ok rfl rfl (Nat.zero_le _)) (by exact (show 4 < 10 by decide))) (sSeq_to (sFor_ok (rng_len (eOp_ok rfl hu (gAdd1 u0)) (by omega)) hl)
    (sRet_ok (eTup_ok (aCons_ok rfl (aCons_ok (eCBV_ok rfl rfl) (aCons_ok (eOp_ok rfl ha rfl) (aCons_ok (eOp_ok rfl hb rfl) rfl)))) rfl (show 4 ≤ big by decide))))))
def stD (s : Int × Int × Int) : D := .tup [.int s.1, .int s.2.1, .int s.2.2]
end Den

namespace Den
open PySem PySem.Spec PyProof.Rows L2
open Evl (Ex)
/-! ### alike -/
def Same (n : Nat) (d : D) : Prop := ∀ w, G_law_same n [.d d, .d d] w = some (.ok (.d (.bl true)), w)
theorem isi_of {x : D} {a n : String} {r : Bool} (h : tyD x = some a) (k : isTy a n = some r) : gIsi [x, .ty n] = some (.bl r) := by
  show (tyD x).bind (fun a => (isTy a n).map D.bl) = _
  rw [h]
  show (isTy a n).map D.bl = _
  rw [k]
  rfl
theorem isi_ib {c : Int} : gIsi [.int c, .ty "bool"] = some (.bl false) := isi_of (a := "int") rfl (by decide +kernel)
theorem isi_ii {c : Int} : gIsi [.int c, .ty "int"] = some (.bl true) := isi_of (a := "int") rfl (by decide +kernel)
theorem isi_tb {l : List D} : gIsi [.tup l, .ty "bool"] = some (.bl false) := isi_of (a := "tuple") rfl (by decide +kernel)
theorem isi_ti {l : List D} : gIsi [.tup l, .ty "int"] = some (.bl false) := isi_of (a := "tuple") rfl (by decide +kernel)
theorem isi_ts {l : List D} : gIsi [.tup l, .ty "str"] = some (.bl false) := isi_of (a := "tuple") rfl (by decide +kernel)
theorem isi_tt {l : List D} : gIsi [.tup l, .ty "tuple"] = some (.bl true) := isi_of (a := "tuple") rfl (by decide +kernel)
theorem isi_tl {l : List D} : gIsi [.tup l, .ty "list"] = some (.bl false) := isi_of (a := "tuple") rfl (by decide +kernel)
theorem same_int {n : Nat} {c : Int} : Same (n + 1) (.int c) := fun w => by
  have hq : gEq (.int c) (.int c) = some (.bl true) := by
    show some (D.bl (decide (c = c))) = _
    simp
  exact fnG_rt (q := ⟨[.dat (.int c), .dat (.int c), .un], w⟩) (sSeq_to (sIf_f (tOf_ok (eOp_ok rfl rfl rfl)) rfl) (sSeq_to (sIf_f (tOf_ok (eCB2_ok rfl rfl isi_ib)) rfl) (sSeq_rt (sIf_t (tOf_ok (eCB2_ok rfl rfl isi_ii)) (sRet_ok (ifb_t (tOf_ok (eCB2_ok rfl rfl isi_ii)) (ifb_t (tOf_ok (notV_ok (tOf_ok (eCB2_ok rfl rfl isi_ib)))) (eOp_ok (q1 := ⟨[.dat (.int c), .dat (.int c), .un], w⟩) (x := .int c) (y := .int c) rfl rfl hq))))))))
theorem same_tup {n : Nat} {ds : List D} (hl : ds.length ≤ 100000) (h : ∀ d ∈ ds, Same (n + 1) d) : Same (n + 2) (.tup ds) := fun w => by
  have hlp : ∃ x, loopD (gSet 2) (lb_law_same_0 (G_law_same (n + 1))) (iota 0 ds.length) ⟨[.dat (.tup ds), .dat (.tup ds), .un], w⟩ = some (.nx ⟨[.dat (.tup ds), .dat (.tup ds), x], w⟩) := by
    obtain ⟨q, h1, _, x, h2⟩ := loopD_inv (a := gSet 2) (g := lb_law_same_0 (G_law_same (n + 1))) (fun es q => (∀ d ∈ es, ∃ i : Nat, i < ds.length ∧ d = .int i) ∧ ∃ x, q = ⟨[.dat (.tup ds), .dat (.tup ds), x], w⟩)
      (fun d es q ⟨hm, x, e⟩ => by
        subst e
        obtain ⟨i, hi, rfl⟩ := hm d (by simp)
        have k : ixD (.tup ds) (.int (i : Int)) = some ds[i] := by
          show atI ds (i : Int) = _
          rw [atI_nat (by omega) (by omega), Int.toNat_natCast, List.getElem?_eq_getElem hi]
        exact ⟨_, _, rfl, sIf_f (tNot_ok (tOf_ok (eCall_w (aCons_ok (eIx_d rfl rfl k) (aCons_ok (eIx_d rfl rfl k) rfl)) rfl (h _ (List.getElem_mem hi) _)))) rfl, fun d m => hm d (by simp [m]), _, rfl⟩)
      (iota 0 ds.length) _ ⟨fun d m => by
        rw [iota_range] at m
        obtain ⟨i, hi, rfl⟩ := List.mem_map.mp m
        exact ⟨i, List.mem_range.mp hi, by rw [Int.zero_add]⟩, .un, rfl⟩
    exact ⟨x, h1.trans (by rw [h2])⟩
  obtain ⟨x, hlp⟩ := hlp
  have hn : gNe (.int (ds.length : Nat)) (.int (ds.length : Nat)) = some (.bl false) := by
    show some (D.bl (!decide ((ds.length : Int) = ds.length))) = _
    simp
  exact fnG_rt (q := ⟨[.dat (.tup ds), .dat (.tup ds), x], w⟩) (sSeq_to (sIf_f (tOf_ok (eOp_ok rfl rfl rfl)) rfl) (sSeq_to (sIf_f (tOf_ok (eCB2_ok rfl rfl isi_tb)) rfl) (sSeq_to (sIf_f (tOf_ok (eCB2_ok rfl rfl isi_ti)) rfl) (sSeq_to (sIf_f (tOf_ok (eCB2_ok rfl rfl isi_ts)) rfl)
    (sSeq_to (sIf_f (tAnd_t (tOf_ok (eCB2_ok rfl rfl isi_tt)) (tNot_ok (tOf_ok (eCB2_ok rfl rfl isi_tt)))) rfl) (sSeq_to (sIf_f (tAnd_f (tOf_ok (eCB2_ok rfl rfl isi_tl))) rfl) (sSeq_to (sIf_f (tOf_ok (eOp_ok (q1 := ⟨[.dat (.tup ds), .dat (.tup ds), .un], w⟩) (eCB1_ok (x := .tup ds) rfl rfl) (eCB1_ok (x := .tup ds) rfl rfl) hn)) rfl)
    (sSeq_to (sFor_ok (rng_len (n := ds.length) (eCB1_ok (x := .tup ds) rfl rfl) (by omega)) hlp) (sRet_ok rfl)))))))))
theorem same_il {n : Nat} {l : List Int} (hl : l.length ≤ 1000) : Same (n + 2) (tpD l) := same_tup (by rw [il_len]; omega) fun d hd => by
  obtain ⟨i, _, rfl⟩ := List.mem_map.mp hd
  exact same_int
theorem isi_sb {c : Str} : gIsi [.str c, .ty "bool"] = some (.bl false) := isi_of (a := "str") rfl (by decide +kernel)
theorem isi_si {c : Str} : gIsi [.str c, .ty "int"] = some (.bl false) := isi_of (a := "str") rfl (by decide +kernel)
theorem isi_ss {c : Str} : gIsi [.str c, .ty "str"] = some (.bl true) := isi_of (a := "str") rfl (by decide +kernel)
theorem same_str {n : Nat} {c : Str} : Same (n + 1) (.str c) := fun w => by
  have hq : gEq (.str c) (.str c) = some (.bl true) := by
    show some (D.bl (decide (c = c))) = _
    simp
  exact fnG_rt (q := ⟨[.dat (.str c), .dat (.str c), .un], w⟩) (sSeq_to (sIf_f (tOf_ok (eOp_ok rfl rfl rfl)) rfl) (sSeq_to (sIf_f (tOf_ok (eCB2_ok rfl rfl isi_sb)) rfl) (sSeq_to (sIf_f (tOf_ok (eCB2_ok rfl rfl isi_si)) rfl) (sSeq_rt (sIf_t (tOf_ok (eCB2_ok rfl rfl isi_ss)) (sRet_ok (ifb_t (tOf_ok (eCB2_ok rfl rfl isi_ss)) (eOp_ok (q1 := ⟨[.dat (.str c), .dat (.str c), .un], w⟩) (x := .str c) (y := .str c) rfl rfl hq))))))))
theorem nsame {g1 g2 : ME XV} {A : MS} {q : Stt} {d : D} (h1 : g1 q = some (.ok (.d d), q)) (h2 : g2 q = some (.ok (.d d), q)) (h : Same 4 d) : sIf (tNotB (tOf (eCall 2 (G_law_same 4) (aCons g1 (aCons g2 aNil))))) A sNext q = some (.nx q) := by
  have e : eCall 2 (G_law_same 4) (aCons g1 (aCons g2 aNil)) q = some (.ok (.d (.bl true)), q) := eCall_w (aCons_ok h1 (aCons_ok h2 rfl)) rfl (h q.w)
  exact sIf_f (tNot_ok (tOf_ok e)) rfl
end Den

namespace Den
open PySem PySem.Spec PyProof.Rows L2
open Evl (Ex)
/-! ### users, uses, stays: what they are -/
abbrev St3 := Int × Int × Int
structure okQ (p : Pb) : Prop where
  n : p.rows.length ≤ 20
  b : p.bs.length ≤ 20
  s : ∀ b ∈ p.bs, b.length ≤ 10 ∧ ∀ s ∈ b, s.1.length ≤ 10
theorem okP.q {p : Pb} (h : okP p) : okQ p := ⟨by have := h.n; omega, h.b, fun b hb => by
  have h1 := (h.bs b hb).1
  exact ⟨by omega, fun s hs => by have := ((h.bs b hb).2 s hs).2.1; omega⟩⟩
abbrev bat (p : Pb) (t : Nat) : List Sm := p.bs.getD t []
theorem okQ.bat {p : Pb} (h : okQ p) (t : Nat) : (bat p t).length ≤ 10 ∧ ∀ s ∈ bat p t, s.1.length ≤ 10 := by
  rcases Nat.lt_or_ge t p.bs.length with ht | ht
  · refine h.s _ ?_
    show p.bs.getD t [] ∈ p.bs
    rw [List.getD_eq_getElem?_getD, List.getElem?_eq_getElem ht]
    exact List.getElem_mem ht
  · show (p.bs.getD t []).length ≤ 10 ∧ ∀ s ∈ p.bs.getD t [], _
    rw [List.getD_eq_getElem?_getD, List.getElem?_eq_none ht]
    exact ⟨by decide, fun s hs => by cases hs⟩
def idxL (n row : Int) : Nat → List Sm → List Int
  | _, [] => []
  | k, s :: ss => if decide (row ∈ s.1) then ((k : Int) % n) :: idxL n row (k + 1) ss else idxL n row (k + 1) ss
theorem idxL_cons {n row : Int} {k : Nat} {s : Sm} {ss : List Sm} : idxL n row k (s :: ss) = if decide (row ∈ s.1) then ((k : Int) % n) :: idxL n row (k + 1) ss else idxL n row (k + 1) ss := rfl
theorem idx_len {n row : Int} : ∀ (ss : List Sm) (k : Nat), (idxL n row k ss).length ≤ ss.length
  | [], _ => Nat.le_refl _
  | s :: ss, k => by
    have h := idx_len (n := n) (row := row) ss (k + 1)
    unfold idxL
    split
    · exact Nat.succ_le_succ h
    · exact Nat.le_succ_of_le h
theorem idx_mem {n row x : Int} : ∀ (ss : List Sm) (k : Nat), x ∈ idxL n row k ss ↔ ∃ i s, ss[i]? = some s ∧ row ∈ s.1 ∧ (((k + i : Nat) : Int) % n = x)
  | [], k => ⟨fun h => (by cases h), fun ⟨i, s, h, _⟩ => (by cases h)⟩
  | s :: ss, k => by
    have h := idx_mem (n := n) (row := row) (x := x) ss (k + 1)
    have step : (∃ i s', (s :: ss)[i]? = some s' ∧ row ∈ s'.1 ∧ (((k + i : Nat) : Int) % n = x)) ↔ ((row ∈ s.1 ∧ (k : Int) % n = x) ∨ ∃ i s', ss[i]? = some s' ∧ row ∈ s'.1 ∧ (((k + 1 + i : Nat) : Int) % n = x)) := by
      constructor
      · rintro ⟨i, s', h1, h2, h3⟩
        cases i with
        | zero =>
          cases h1
          exact .inl ⟨h2, h3⟩
        | succ i => exact .inr ⟨i, s', h1, h2, by rw [← h3]; congr 2; omega⟩
      · rintro (⟨h2, h3⟩ | ⟨i, s', h1, h2, h3⟩)
        · exact ⟨0, s, rfl, h2, h3⟩
        · exact ⟨i + 1, s', h1, h2, by rw [← h3]; congr 2; omega⟩
    rw [step, ← h, idxL_cons]
    by_cases e : row ∈ s.1
    · rw [decide_eq_true e, if_pos rfl, List.mem_cons]
      constructor
      · rintro (rfl | h)
        · exact .inl ⟨e, rfl⟩
        · exact .inr h
      · rintro (⟨_, h⟩ | h)
        · exact .inl h.symm
        · exact .inr h
    · rw [decide_eq_false e, if_neg (by decide)]
      constructor
      · intro h
        exact .inr h
      · rintro (⟨h, _⟩ | h)
        · exact absurd h e
        · exact h
def usersL (p : Pb) (n row : Int) (t : Nat) : List Int := srt (uniq (idxL n row 0 (bat p t)))
def usedB (row : Int) (b : List Sm) : Bool := b.any fun s => decide (row ∈ s.1)
def usesL (p : Pb) (f : Nat) (row : Int) : List Int := (rg f (p.bs.length - f)).filter fun t => usedB row (bat p t.toNat)
def stp (row wd : Int) (acc : List St3) (b : Int) : List St3 := match acc.getLast? with
  | none => acc ++ [(row, b, b)]
  | some l => if b ≤ l.2.2 + wd then acc.dropLast ++ [(row, l.2.1, b)] else acc ++ [(row, b, b)]
def srowL (row wd : Int) (l : List Int) : List St3 := l.foldl (stp row wd) []
def staysL (p : Pb) (wd : Int) (f : Nat) : List St3 := (rg 0 p.rows.length).flatMap fun r => srowL r wd (usesL p f r)
def trD (x : St3) : D := .tup [.int x.1, .int x.2.1, .int x.2.2]
/-! ### the program's -/
def pUse (row : Int) : D → Bool
  | .tup [_, .tup [.tup rs, _]] => (match intsD rs with | some l => decide (row ∈ l) | none => false)
  | _ => false
def fMod (n : Int) : D → D
  | .tup [.int k, _] => .int (k % n)
  | _ => .non
theorem idx_eq {n row : Int} : ∀ (ss : List Sm) (k : Nat), ((((ss.map smD).zipIdx k).map fun x => D.tup [.int x.2, x.1]).filter (pUse row)).map (fMod n) = il (idxL n row k ss)
  | [], _ => rfl
  | s :: ss, k => by
    have h := idx_eq (n := n) (row := row) ss (k + 1)
    rw [List.map_cons, List.zipIdx_cons, List.map_cons, List.filter_cons]
    have e : pUse row (D.tup [.int ((k : Nat) : Int), smD s]) = decide (row ∈ s.1) := by
      show (match intsD (il s.1) with | some l => decide (row ∈ l) | none => false) = _
      rw [intsD_il]
    unfold idxL
    show (if pUse row (D.tup [.int ((k : Nat) : Int), smD s]) = true then _ else _ : List D).map (fMod n) = _
    rw [e]
    by_cases c : row ∈ s.1
    · rw [decide_eq_true c, if_pos rfl, if_pos rfl, List.map_cons, h]
      rfl
    · rw [decide_eq_false c, if_neg (by decide), if_neg (by decide), h]
theorem users_ok {p : Pb} {n a b row : Int} {t : Nat} {w : List WO} (h : okQ p) (hn : 0 < n) (ht : t < p.bs.length) : G_users [.d (pbD p), .d (stD (n, a, b)), .d (.int row), .d (.int t)] w = some (.ok (.d (tpD (usersL p n row t))), w) := by
  have h1 : ixD (.tup (p.bs.map btD)) (.int (t : Int)) = some (btD (bat p t)) := atI_map [] ht
  have hl : (bat p t).length ≤ 10 := (h.bat t).1
  have hc : lLc [7, 8] (iEn (eVar 5)) (gTupD 2 (gsCons (gSet 7) (gsCons (gSet 8) gsNil))) (tOf (eOp (gIn false) (eVar 2) (eIx (eVar 8) (eC (.int 0))))) (eOp gMod (eVar 7) (eVar 4)) ⟨[.dat (pbD p), .dat (stD (n, a, b)), .dat (.int row), .dat (.int t), .dat (.int n), .dat (btD (bat p t)), .un, .un, .un], w⟩
      = some (.ok (il (idxL n row 0 (bat p t))), ⟨[.dat (pbD p), .dat (stD (n, a, b)), .dat (.int row), .dat (.int t), .dat (.int n), .dat (btD (bat p t)), .un, .un, .un], w⟩) := by
    rw [← idx_eq]
    refine lLc_flt (ds := enumD ((bat p t).map smD)) (q0 := ⟨[.dat (pbD p), .dat (stD (n, a, b)), .dat (.int row), .dat (.int t), .dat (.int n), .dat (btD (bat p t)), .un, .un, .un], w⟩) (pUse row) (fMod n) rfl (by rw [enumD_len, List.length_map]; exact Nat.le_trans hl (by decide)) rfl fun d hd => ?_
    obtain ⟨i, hi⟩ := List.getElem?_of_mem hd
    obtain ⟨x, hx, rfl⟩ := enumD_get hi
    rw [List.getElem?_map] at hx
    cases e : (bat p t)[i]? with
    | none => rw [e] at hx; cases hx
    | some s =>
      rw [e] at hx
      cases hx
      have e2 : pUse row (D.tup [.int (i : Int), smD s]) = inB false row s.1 := by
        show (match intsD (il s.1) with | some l => decide (row ∈ l) | none => false) = _
        rw [intsD_il]
        rfl
      exact ⟨_, rfl, rfl, by rw [e2]; exact tOf_ok (eOp_ok rfl (eIx_d rfl rfl rfl) gIn_il), fun _ => eOp_ok rfl rfl (gMod_ok hn)⟩
  exact fnG_rt (q := ⟨[.dat (pbD p), .dat (stD (n, a, b)), .dat (.int row), .dat (.int t), .dat (.int n), .dat (btD (bat p t)), .dat (.lst (il (idxL n row 0 (bat p t)))), .un, .un], w⟩)
    (sSeq_to (sAsg_ok (eIx_d rfl rfl rfl) rfl) (sSeq_to (sAsg_ok (eIx_d (eIx_d rfl rfl rfl) rfl h1) rfl) (sSeq_to (sAsg_ok (eL_ok hc) rfl) (sRet_ok (eCB1_ok (eL_ok (lSortSet_ok rfl (by have := idx_len (n := n) (row := row) (bat p t) 0; omega))) rfl)))))
def fUsed (row : Int) : D → D
  | .tup [.tup rs, _] => .bl (match intsD rs with | some l => decide (row ∈ l) | none => false)
  | _ => .non
theorem isused_ok {row : Int} {b : List Sm} {w : List WO} (hl : b.length ≤ 10) : G_is_used [.d (.int row), .d (btD b)] w = some (.ok (.d (.bl (usedB row b))), w) := by
  have hc : lLc [2, 3] (iOf (eVar 1)) (gTupD 2 (gsCons (gSet 2) (gsCons (gSet 3) gsNil))) (ret true) (eOp (gIn false) (eVar 0) (eVar 2)) ⟨[.dat (.int row), .dat (btD b), .un, .un], w⟩ = some (.ok ((b.map smD).map (fUsed row)), ⟨[.dat (.int row), .dat (btD b), .un, .un], w⟩) := by
    refine lLc_pure (fUsed row) (q0 := ⟨[.dat (.int row), .dat (btD b), .un, .un], w⟩) rfl (by rw [List.length_map]; exact Nat.le_trans hl (by decide)) rfl fun d hd => ?_
    obtain ⟨s, _, rfl⟩ := List.mem_map.mp hd
    have e2 : fUsed row (smD s) = .bl (inB false row s.1) := by
      show D.bl (match intsD (il s.1) with | some l => decide (row ∈ l) | none => false) = _
      rw [intsD_il]
      rfl
    exact ⟨_, rfl, rfl, by rw [e2]; exact eOp_ok rfl rfl gIn_il⟩
  have e : (b.map smD).map (fUsed row) = b.map fun s => .bl (decide (row ∈ s.1)) := by
    rw [List.map_map]
    refine List.map_congr_left fun s _ => ?_
    show D.bl (match intsD (il s.1) with | some l => decide (row ∈ l) | none => false) = _
    rw [intsD_il]
  rw [e] at hc
  have hg : gAny [.lst (b.map fun s => .bl (decide (row ∈ s.1)))] = some (.bl (usedB row b)) := by
    show (allBl (b.map fun s => D.bl (decide (row ∈ s.1)))).map _ = _
    rw [allBl_map]
    show some (D.bl ((b.map fun s => decide (row ∈ s.1)).any id)) = _
    rw [List.any_map]
    rfl
  exact fnG_rt (q := ⟨[.dat (.int row), .dat (btD b), .un, .un], w⟩) (sRet_ok (eCB1_ok (eL_ok hc) hg))
def pUses (p : Pb) (row : Int) : D → Bool
  | .int t => usedB row (bat p t.toNat)
  | _ => false
theorem uses_len {p : Pb} {f : Nat} {row : Int} (h : okQ p) : (usesL p f row).length ≤ 20 := by
  have h1 := h.b
  have h2 := List.length_filter_le (fun t : Int => usedB row (bat p t.toNat)) (rg f (p.bs.length - f))
  rw [rg_len] at h2
  exact Nat.le_trans h2 (by omega)
theorem uses_ok {p : Pb} {f : Nat} {row : Int} {w : List WO} (h : okQ p) (hf : f ≤ p.bs.length) : G_uses [.d (pbD p), .d (.int f), .d (.int row)] w = some (.ok (.d (tpD (usesL p f row))), w) := by
  have hb := h.b
  have hc : lLc [4] (bnd (aCons (eVar 1) (aCons (eCB gLen (aCons (eVar 3) aNil)) aNil)) fun xs => lft (rng2 xs)) (gSet 4) (tOf (eCall 2 G_is_used (aCons (eVar 2) (aCons (eIx (eVar 3) (eVar 4)) aNil)))) (eVar 4) ⟨[.dat (pbD p), .dat (.int f), .dat (.int row), .dat (.tup (p.bs.map btD)), .un], w⟩
      = some (.ok (il (usesL p f row)), ⟨[.dat (pbD p), .dat (.int f), .dat (.int row), .dat (.tup (p.bs.map btD)), .un], w⟩) := by
    rw [usesL, ← il_flt (p := fun t : Int => usedB row (bat p t.toNat)) (P := pUses p row) (F := id) (fun _ => rfl) (fun _ => rfl)]
    refine lLc_flt (q0 := ⟨[.dat (pbD p), .dat (.int f), .dat (.int row), .dat (.tup (p.bs.map btD)), .un], w⟩) (pUses p row) id (rng2_len (b := p.bs.length) rfl (eCB1_ok rfl (by show some (D.int _) = _; rw [List.length_map])) (by omega) (by omega)) (by rw [il_len, rg_len]; exact Nat.le_trans (show p.bs.length - f ≤ 20 by omega) (by decide)) rfl fun d hd => ?_
    obtain ⟨t, ht, rfl⟩ := List.mem_map.mp hd
    have ht' := rg_mem.mp ht
    obtain ⟨k, rfl⟩ : ∃ k : Nat, t = k := ⟨t.toNat, by omega⟩
    have hk : k < p.bs.length := by omega
    have h1 : ixD (.tup (p.bs.map btD)) (.int (k : Int)) = some (btD (bat p k)) := atI_map [] hk
    exact ⟨_, rfl, rfl, tOf_ok (by exact eCall_w (aCons_ok rfl (aCons_ok (eIx_d rfl rfl h1) rfl)) rfl (isused_ok (h.bat k).1)), fun _ => rfl⟩
  exact fnG_rt (q := ⟨[.dat (pbD p), .dat (.int f), .dat (.int row), .dat (.tup (p.bs.map btD)), .un], w⟩) (sSeq_to (sAsg_ok (eIx_d rfl rfl rfl) rfl) (sRet_ok (eCB1_ok (eL_ok hc) rfl)))
theorem stp_len {row wd b : Int} {acc : List St3} : (stp row wd acc b).length ≤ acc.length + 1 := by
  unfold stp
  cases e : acc.getLast? with
  | none => simp
  | some l =>
    show (if b ≤ l.2.2 + wd then acc.dropLast ++ [(row, l.2.1, b)] else acc ++ [(row, b, b)]).length ≤ _
    split
    · simp
    · simp
theorem srow_len {row wd : Int} : ∀ (l : List Int) (acc : List St3), (l.foldl (stp row wd) acc).length ≤ acc.length + l.length
  | [], acc => Nat.le_refl _
  | b :: l, acc => by
    have h := srow_len (row := row) (wd := wd) l (stp row wd acc b)
    have h2 := stp_len (row := row) (wd := wd) (b := b) (acc := acc)
    show (l.foldl (stp row wd) (stp row wd acc b)).length ≤ acc.length + (l.length + 1)
    omega
theorem srow_ok {row wd : Int} {l : List Int} {w : List WO} (hl : l.length ≤ 100) : G_stays_of_row [.d (.int row), .d (tpD l), .d (.int wd)] w = some (.ok (.d (.lst ((srowL row wd l).map trD))), w) := by
  obtain ⟨q, h1, bs, L, x4, x5, e1, rfl, e3, e4⟩ := loopD_inv (a := gSet 4) (g := lb_stays_of_row_0)
    (fun es q => ∃ (bs : List Int) (L : List St3) (x4 x5 : Sl), es = il bs ∧ q = ⟨[.dat (.int row), .dat (tpD l), .dat (.int wd), .ol (L.map trD), x4, x5], w⟩ ∧ bs.foldl (stp row wd) L = srowL row wd l ∧ L.length + bs.length ≤ 100)
    (fun d es q ⟨bs, L, x4, x5, e1, e2, e3, e4⟩ => by
      cases bs with
      | nil => cases e1
      | cons b bs =>
        obtain ⟨rfl, rfl⟩ := List.cons.inj e1
        subst e2
        have hL : L.length < 100 := by
          have : L.length + (bs.length + 1) ≤ 100 := e4
          omega
        have fin : ∀ (L0 : List St3) (o : Int), L0.length ≤ L.length → stp row wd L b = L0 ++ [(row, o, b)] → ∀ q : Stt, q = ⟨[.dat (.int row), .dat (tpD l), .dat (.int wd), .ol (L0.map trD), .dat (.int b), .dat (.int o)], w⟩ →
            ∃ q2, sDrop (eM1V gApp 3 (eTup (aCons (eVar 0) (aCons (eVar 5) (aCons (eVar 4) aNil))))) q = some (.nx q2) ∧ ∃ (bs' : List Int) (L : List St3) (x4 x5 : Sl), il bs = il bs' ∧ q2 = ⟨[.dat (.int row), .dat (tpD l), .dat (.int wd), .ol (L.map trD), x4, x5], w⟩ ∧ bs'.foldl (stp row wd) L = srowL row wd l ∧ L.length + bs'.length ≤ 100 := by
          intro L0 o hl0 hst q e
          subst e
          refine ⟨_, sDrop_ok (eM1V_ok (y := .non) (x := trD (row, o, b)) (q1 := ⟨[.dat (.int row), .dat (tpD l), .dat (.int wd), .ol (L0.map trD), .dat (.int b), .dat (.int o)], w⟩) rfl rfl rfl (gApp_ok (by rw [List.length_map]; exact Nat.lt_of_le_of_lt hl0 (Nat.lt_of_lt_of_le hL (by decide))))), bs, L0 ++ [(row, o, b)], .dat (.int b), .dat (.int o), rfl, ?_, ?_, ?_⟩
          · rw [List.map_append]
            rfl
          · rw [← hst]
            exact e3
          · rw [List.length_append]
            have : L.length + (bs.length + 1) ≤ 100 := e4
            show L0.length + 1 + bs.length ≤ 100
            omega
        rcases List.eq_nil_or_concat L with rfl | ⟨L0, l0, hL0⟩
        · obtain ⟨q2, k1, k2⟩ := fin [] b (Nat.le_refl _) rfl _ rfl
          exact ⟨_, q2, rfl, sSeq_to (sAsg_ok rfl rfl) (sSeq_to (sIf_f (tAnd_f (by exact tLenB_ok (ds := []) rfl)) rfl) k1), k2⟩
        · rw [List.concat_eq_append] at hL0
          subst hL0
          obtain ⟨r0, o0, c0⟩ := l0
          have hpk : ixD (.lst ((L0 ++ [(r0, o0, c0)]).map trD)) (.int (-1)) = some (trD (r0, o0, c0)) := by
            show atI ((L0 ++ [(r0, o0, c0)]).map trD) (-1) = _
            rw [List.map_append]
            exact atI_last
          have hne : (!((L0 ++ [(r0, o0, c0)]).map trD).isEmpty) = true := by simp
          have hgl : (L0 ++ [(r0, o0, c0)]).getLast? = some (r0, o0, c0) := by simp
          have htl : tLenB 3 ⟨[.dat (.int row), .dat (tpD l), .dat (.int wd), .ol ((L0 ++ [(r0, o0, c0)]).map trD), .dat (.int b), .dat (.int b)], w⟩ = some (.ok true, ⟨[.dat (.int row), .dat (tpD l), .dat (.int wd), .ol ((L0 ++ [(r0, o0, c0)]).map trD), .dat (.int b), .dat (.int b)], w⟩) := by
            rw [tLenB_ok rfl, hne]
          by_cases c : b ≤ c0 + wd
          · have hst : stp row wd (L0 ++ [(r0, o0, c0)]) b = L0 ++ [(row, o0, b)] := by
              unfold stp
              rw [hgl]
              show (if b ≤ c0 + wd then (L0 ++ [(r0, o0, c0)]).dropLast ++ [(row, o0, b)] else _) = _
              rw [if_pos c, List.dropLast_concat]
            obtain ⟨q2, k1, k2⟩ := fin L0 o0 (by simp) hst _ rfl
            refine ⟨_, q2, rfl, sSeq_to (sAsg_ok rfl rfl) (sSeq_to (sIf_t (tAnd_t htl (tOf_ok (eOp_ok rfl (eOp_ok (eIx_d (eOpV_ok rfl rfl rfl hpk) rfl rfl) rfl rfl) (by rw [gC, decide_eq_true c])))) (sAsg_ok (eIx_d (eM0V_ok (ds := L0.map trD ++ [trD (r0, o0, c0)]) ?_ gPop0_ok) rfl rfl) rfl)) k1), k2⟩
            rw [List.map_append]
            rfl
          · have hst : stp row wd (L0 ++ [(r0, o0, c0)]) b = L0 ++ [(r0, o0, c0)] ++ [(row, b, b)] := by
              unfold stp
              rw [hgl]
              show (if b ≤ c0 + wd then _ else L0 ++ [(r0, o0, c0)] ++ [(row, b, b)]) = _
              rw [if_neg c]
            obtain ⟨q2, k1, k2⟩ := fin (L0 ++ [(r0, o0, c0)]) b (Nat.le_refl _) hst _ rfl
            exact ⟨_, q2, rfl, sSeq_to (sAsg_ok rfl rfl) (sSeq_to (sIf_f (tAnd_t htl (tOf_ok (eOp_ok rfl (eOp_ok (eIx_d (eOpV_ok rfl rfl rfl hpk) rfl rfl) rfl rfl) (by rw [gC, decide_eq_false c])))) rfl) k1), k2⟩)
    (il l) ⟨[.dat (.int row), .dat (tpD l), .dat (.int wd), .ol [], .un, .un], w⟩ ⟨l, [], .un, .un, rfl, rfl, rfl, by simpa using hl⟩
  have hb : bs = [] := by
    cases bs with
    | nil => rfl
    | cons b bs => cases e1
  subst hb
  have e3' : L = srowL row wd l := e3
  subst e3'
  exact fnG_rt (q := ⟨[.dat (.int row), .dat (tpD l), .dat (.int wd), .dat (.lst ((srowL row wd l).map trD)), x4, x5], w⟩) (sSeq_to (sSetL_ok (lLst_ok rfl rfl (Nat.zero_le _)) (by exact (show 3 < 6 by decide))) (sSeq_to (sFor_ok rfl h1) (sRet_ok rfl)))
end Den

namespace Den
open PySem PySem.Spec PyProof.Rows L2
open Evl (Ex)
theorem gExt_ok {ds es : List D} (h : ds.length + es.length ≤ big) : gExt ds (.lst es) = some (.non, ds ++ es) := by
  show (if ds.length + es.length ≤ big then some (D.non, ds ++ es) else none) = _
  rw [if_pos h]
theorem stays_ok {p : Pb} {n wd a : Int} {f : Nat} {w : List WO} (h : okQ p) (hf : f ≤ p.bs.length) : G_stays [.d (pbD p), .d (stD (n, wd, a)), .d (.int f)] w = some (.ok (.d (.tup ((staysL p wd f).map trD))), w) := by
  obtain ⟨q, h1, bs, L, x5, e1, rfl, e3, e4⟩ := loopD_inv (a := gSet 5) (g := lb_stays_0)
    (fun es q => ∃ (bs : List Int) (L : List St3) (x5 : Sl), es = il bs ∧ q = ⟨[.dat (pbD p), .dat (stD (n, wd, a)), .dat (.int f), .dat (.int wd), .ol (L.map trD), x5], w⟩ ∧ L ++ bs.flatMap (fun r => srowL r wd (usesL p f r)) = staysL p wd f ∧ L.length + 20 * bs.length ≤ 400)
    (fun d es q ⟨bs, L, x5, e1, e2, e3, e4⟩ => by
      cases bs with
      | nil => cases e1
      | cons r bs =>
        obtain ⟨rfl, rfl⟩ := List.cons.inj e1
        subst e2
        have hu := uses_len (f := f) (row := r) h
        have hs := srow_len (row := r) (wd := wd) (usesL p f r) []
        have hs' : (srowL r wd (usesL p f r)).length ≤ 20 := by
          show ((usesL p f r).foldl (stp r wd) []).length ≤ 20
          simp at hs
          omega
        have e4' : L.length + 20 * (bs.length + 1) ≤ 400 := e4
        refine ⟨_, _, rfl, sDrop_ok (eM1V_ok rfl (by exact eCall_w (aCons_ok rfl (aCons_ok (eCall_w (aCons_ok rfl (aCons_ok rfl (aCons_ok rfl rfl))) rfl (uses_ok h hf)) (aCons_ok rfl rfl))) rfl (srow_ok (by omega))) rfl (gExt_ok ?_)), bs, L ++ srowL r wd (usesL p f r), .dat (.int r), rfl, ?_, ?_, ?_⟩
        · rw [List.length_map, List.length_map]
          exact Nat.le_trans (show _ ≤ 400 by omega) (by decide)
        · rw [List.map_append]
          rfl
        · rw [← e3, List.flatMap_cons, List.append_assoc]
        · rw [List.length_append]
          omega)
    (il (rg 0 p.rows.length)) ⟨[.dat (pbD p), .dat (stD (n, wd, a)), .dat (.int f), .dat (.int wd), .ol [], .un], w⟩ ⟨rg 0 p.rows.length, [], .un, rfl, rfl, rfl, by
      have := h.n
      rw [rg_len]
      show 0 + 20 * p.rows.length ≤ 400
      omega⟩
  have hb : bs = [] := by
    cases bs with
    | nil => rfl
    | cons b bs => cases e1
  subst hb
  have e3' : L = staysL p wd f := by
    rw [← e3]
    simp
  subst e3'
  have hlen : gLen [.tup (il p.rows)] = some (.int p.rows.length) := congrArg (fun k : Nat => some (D.int k)) il_len
  have hn := h.n
  exact fnG_rt (q := ⟨[.dat (pbD p), .dat (stD (n, wd, a)), .dat (.int f), .dat (.int wd), .ol ((staysL p wd f).map trD), x5], w⟩) (sSeq_to (sAsg_ok (eIx_d rfl rfl rfl) rfl) (sSeq_to (sSetL_ok (lLst_ok rfl rfl (Nat.zero_le _)) (by exact (show 4 < 6 by decide)))
    (sSeq_to (sFor_ok (rng1_len (n := p.rows.length) (eCB1_ok (eIx_d rfl rfl rfl) hlen) (by omega)) h1) (sRet_ok (eCBV_ok rfl rfl)))))
/-! ### the law's -/
def partL (p : Pb) (n tr : Int) (t : Nat) : List Sm := ((List.range (bat p t).length).filter fun k : Nat => decide ((k : Int) % n = tr)).map fun k => (bat p t).getD k ([], 0)
def lk (acc : List Int) (s : Sm) : List Int := acc ++ s.1.filter fun r => !decide (r ∈ acc)
def lookL (ss : List Sm) : List Int := srt (ss.foldl lk [])
theorem lk_mem {r : Int} : ∀ (ss : List Sm) (acc : List Int), r ∈ ss.foldl lk acc ↔ r ∈ acc ∨ ∃ s ∈ ss, r ∈ s.1
  | [], acc => by simp
  | s :: ss, acc => by
    have h := lk_mem (r := r) ss (lk acc s)
    rw [List.foldl_cons, h]
    unfold lk
    simp only [List.mem_append, List.mem_filter, List.mem_cons, exists_eq_or_imp, Bool.not_eq_true', decide_eq_false_iff_not]
    constructor
    · rintro ((h1 | ⟨h1, _⟩) | h1)
      · exact .inl h1
      · exact .inr (.inl h1)
      · exact .inr (.inr h1)
    · rintro (h1 | h1 | h1)
      · exact .inl (.inl h1)
      · by_cases c : r ∈ acc
        · exact .inl (.inl c)
        · exact .inl (.inr ⟨h1, c⟩)
      · exact .inr h1
theorem look_mem {r : Int} {ss : List Sm} : r ∈ lookL ss ↔ ∃ s ∈ ss, r ∈ s.1 := by
  unfold lookL
  rw [(srt_perm _).mem_iff, lk_mem]
  simp
theorem lk_len : ∀ (ss : List Sm) (acc : List Int), (∀ s ∈ ss, s.1.length ≤ 10) → (ss.foldl lk acc).length ≤ acc.length + 10 * ss.length
  | [], acc, _ => Nat.le_refl _
  | s :: ss, acc, h => by
    have ih := lk_len ss (lk acc s) fun s hs => h s (by simp [hs])
    have h1 := h s (by simp)
    have h2 := List.length_filter_le (fun r : Int => !decide (r ∈ acc)) s.1
    have h3 : (lk acc s).length ≤ acc.length + 10 := by
      unfold lk
      rw [List.length_append]
      omega
    show (ss.foldl lk (lk acc s)).length ≤ acc.length + 10 * (ss.length + 1)
    omega
def pNot (acc : List Int) : D → Bool
  | .int r => !decide (r ∈ acc)
  | _ => false
theorem look_ok {ss : List Sm} {x : D} {w : List WO} (hx : seqD (.d x) = some (ss.map smD)) (hl : ss.length ≤ 100) (hs : ∀ s ∈ ss, s.1.length ≤ 10) : G_law_looked [.d x] w = some (.ok (.d (.lst (il (lookL ss)))), w) := by
  obtain ⟨q, h1, bs, L, x2, x3, x4, e1, rfl, e3, e4⟩ := loopD_inv (a := gTupD 2 (gsCons (gSet 2) (gsCons (gSet 3) gsNil))) (g := lb_law_looked_0)
    (fun es q => ∃ (bs : List Sm) (L : List Int) (x2 x3 x4 : Sl), es = bs.map smD ∧ q = ⟨[.dat x, .ol (il L), x2, x3, .un], w⟩ ∧ bs.foldl lk L = ss.foldl lk [] ∧ (∀ s ∈ bs, s.1.length ≤ 10) ∧ L.length + 10 * bs.length ≤ 1000)
    (fun d es q ⟨bs, L, x2, x3, x4, e1, e2, e3, e4, e5⟩ => by
      cases bs with
      | nil => cases e1
      | cons s bs =>
        obtain ⟨rfl, rfl⟩ := List.cons.inj e1
        subst e2
        have e5' : L.length + 10 * (bs.length + 1) ≤ 1000 := e5
        have hs1 := e4 s (by simp)
        have hc : lLc [4] (iOf (eVar 2)) (gSet 4) (tOf (eOpB (gIn true) (eVar 4) 1)) (eVar 4) ⟨[.dat x, .ol (il L), .dat (.tup (il s.1)), .dat (.int s.2), .un], w⟩ = some (.ok (il (s.1.filter fun r => !decide (r ∈ L))), ⟨[.dat x, .ol (il L), .dat (.tup (il s.1)), .dat (.int s.2), .un], w⟩) := by
          rw [← il_flt (p := fun r : Int => !decide (r ∈ L)) (P := pNot L) (F := id) (fun _ => rfl) (fun _ => rfl)]
          refine lLc_flt (q0 := ⟨[.dat x, .ol (il L), .dat (.tup (il s.1)), .dat (.int s.2), .un], w⟩) (pNot L) id rfl (by rw [il_len]; exact Nat.le_trans hs1 (by decide)) rfl fun d hd => ?_
          obtain ⟨r, _, rfl⟩ := List.mem_map.mp hd
          exact ⟨_, rfl, rfl, tOf_ok (by exact eOpB_ok rfl rfl gIn_ls), fun _ => rfl⟩
        have h2 := List.length_filter_le (fun r : Int => !decide (r ∈ L)) s.1
        refine ⟨_, _, rfl, sDrop_ok (eM1V_ok rfl (eL_ok hc) rfl (gExt_ok (by rw [il_len, il_len]; exact Nat.le_trans (show _ ≤ 1000 by omega) (by decide)))), bs, lk L s, .dat (.tup (il s.1)), .dat (.int s.2), .un, rfl, ?_, e3, fun s hs => e4 s (by simp [hs]), ?_⟩
        · unfold lk
          rw [show il (L ++ s.1.filter fun r => !decide (r ∈ L)) = il L ++ il (s.1.filter fun r => !decide (r ∈ L)) from List.map_append]
          rfl
        · unfold lk
          rw [List.length_append]
          omega)
    (ss.map smD) ⟨[.dat x, .ol [], .un, .un, .un], w⟩ ⟨ss, [], .un, .un, .un, rfl, rfl, rfl, hs, by
      show 0 + 10 * ss.length ≤ 1000
      omega⟩
  have hb : bs = [] := by
    cases bs with
    | nil => rfl
    | cons b bs => cases e1
  subst hb
  have e3' : L = ss.foldl lk [] := e3
  subst e3'
  exact fnG_rt (q := ⟨[.dat x, .dat (.lst (il (ss.foldl lk []))), x2, x3, .un], w⟩) (sSeq_to (sSetL_ok (lLst_ok rfl rfl (Nat.zero_le _)) (by exact (show 1 < 5 by decide))) (sSeq_to (sFor_ok (iOf_ok rfl hx) h1) (sRet_ok (eL_ok (lCB1_ok rfl gSorted_il)))))
def pPart (n tr : Int) : D → Bool
  | .int k => decide (k % n = tr)
  | _ => false
def fPart (b : List Sm) : D → D
  | .int k => smD (b.getD k.toNat ([], 0))
  | _ => .non
theorem part_eq {n tr : Int} {b : List Sm} : ∀ ks : List Nat, ((il (ks.map fun k : Nat => (0 : Int) + k)).filter (pPart n tr)).map (fPart b) = ((ks.filter fun k : Nat => decide ((k : Int) % n = tr)).map fun k => b.getD k ([], 0)).map smD
  | [] => rfl
  | k :: ks => by
    have h := part_eq (n := n) (tr := tr) (b := b) ks
    show ((D.int (0 + (k : Int)) :: il (ks.map fun k : Nat => (0 : Int) + k)).filter (pPart n tr)).map (fPart b) = _
    rw [Int.zero_add, List.filter_cons, List.filter_cons]
    by_cases c : (k : Int) % n = tr
    · have e : pPart n tr (.int (k : Int)) = true := decide_eq_true c
      rw [e, decide_eq_true c, if_pos rfl, if_pos rfl, List.map_cons, List.map_cons, List.map_cons, h]
      congr 1
    · have e : pPart n tr (.int (k : Int)) = false := decide_eq_false c
      rw [e, decide_eq_false c, if_neg (by decide), if_neg (by decide), h]
theorem part_ok {p : Pb} {n a b tr : Int} {t : Nat} {w : List WO} (h : okQ p) (hn : 0 < n) (ht : t < p.bs.length) : G_law_part [.d (pbD p), .d (stD (n, a, b)), .d (.int tr), .d (.int t)] w = some (.ok (.d (.lst ((partL p n tr t).map smD))), w) := by
  have h1 : ixD (.tup (p.bs.map btD)) (.int (t : Int)) = some (btD (bat p t)) := atI_map [] ht
  have hl : (bat p t).length ≤ 10 := (h.bat t).1
  have hlen : gLen [btD (bat p t)] = some (.int (bat p t).length) := by
    show some (D.int _) = _
    rw [List.length_map]
  have hc : lLc [5] (bnd (aCons (eCB gLen (aCons (eVar 4) aNil)) aNil) fun xs => lft (rng1 xs)) (gSet 5) (tOf (eOp gEq (eOp gMod (eVar 5) (eIx (eVar 1) (eC (.int 0)))) (eVar 2))) (eIx (eVar 4) (eVar 5)) ⟨[.dat (pbD p), .dat (stD (n, a, b)), .dat (.int tr), .dat (.int t), .dat (btD (bat p t)), .un], w⟩
      = some (.ok ((partL p n tr t).map smD), ⟨[.dat (pbD p), .dat (stD (n, a, b)), .dat (.int tr), .dat (.int t), .dat (btD (bat p t)), .un], w⟩) := by
    unfold partL
    rw [← part_eq]
    refine lLc_flt (q0 := ⟨[.dat (pbD p), .dat (stD (n, a, b)), .dat (.int tr), .dat (.int t), .dat (btD (bat p t)), .un], w⟩) (pPart n tr) (fPart (bat p t)) (rng1_len (n := (bat p t).length) (eCB1_ok rfl hlen) (by omega)) (by rw [il_len, List.length_map, List.length_range]; exact Nat.le_trans hl (by decide)) rfl fun d hd => ?_
    obtain ⟨k, hk, rfl⟩ := List.mem_map.mp hd
    have hk' := rg_mem.mp hk
    obtain ⟨j, rfl⟩ : ∃ j : Nat, k = j := ⟨k.toNat, by omega⟩
    have hj : j < (bat p t).length := by omega
    have h2 : ixD (btD (bat p t)) (.int (j : Int)) = some (smD ((bat p t).getD j ([], 0))) := atI_map ([], 0) hj
    exact ⟨_, rfl, rfl, tOf_ok (eOp_ok (eOp_ok rfl (eIx_d rfl rfl rfl) (gMod_ok hn)) rfl rfl), fun _ => eIx_d rfl rfl h2⟩
  exact fnG_rt (q := ⟨[.dat (pbD p), .dat (stD (n, a, b)), .dat (.int tr), .dat (.int t), .dat (btD (bat p t)), .un], w⟩) (sSeq_to (sAsg_ok (eIx_d (eIx_d rfl rfl rfl) rfl h1) rfl) (sRet_ok (eL_ok hc)))
end Den

namespace Den
open PySem PySem.Spec PyProof.Rows L2
open Evl (Ex)
def lusersL (p : Pb) (m : Nat) (row : Int) (t : Nat) : List Int := (rg 0 m).filter fun tr => decide (row ∈ lookL (partL p m tr t))
def pLU (p : Pb) (m : Nat) (row : Int) (t : Nat) : D → Bool
  | .int tr => decide (row ∈ lookL (partL p m tr t))
  | _ => false
theorem part_mem {p : Pb} {n tr : Int} {t : Nat} {s : Sm} : s ∈ partL p n tr t ↔ ∃ k : Nat, (bat p t)[k]? = some s ∧ (k : Int) % n = tr := by
  unfold partL
  constructor
  · intro h
    obtain ⟨k, hk, rfl⟩ := List.mem_map.mp h
    obtain ⟨h1, h2⟩ := List.mem_filter.mp hk
    have h1 := List.mem_range.mp h1
    exact ⟨k, by rw [List.getD_eq_getElem?_getD, List.getElem?_eq_getElem h1]; rfl, of_decide_eq_true h2⟩
  · rintro ⟨k, h1, h2⟩
    have hk := (List.getElem?_eq_some_iff.mp h1).1
    exact List.mem_map.mpr ⟨k, List.mem_filter.mpr ⟨List.mem_range.mpr hk, decide_eq_true h2⟩, by rw [List.getD_eq_getElem?_getD, h1]; rfl⟩
theorem part_len {p : Pb} {n tr : Int} {t : Nat} : (partL p n tr t).length ≤ (bat p t).length := by
  unfold partL
  rw [List.length_map]
  exact Nat.le_trans (List.length_filter_le _ _) (by rw [List.length_range]; exact Nat.le_refl _)
theorem part_s {p : Pb} {n tr : Int} {t : Nat} (h : okQ p) : ∀ s ∈ partL p n tr t, s.1.length ≤ 10 := fun s hs => by
  obtain ⟨k, h1, _⟩ := part_mem.mp hs
  exact (h.bat t).2 s (List.mem_of_getElem? h1)
theorem lusers_ok {p : Pb} {m : Nat} {a b row : Int} {t : Nat} {w : List WO} (h : okQ p) (hm : 0 < m) (hm2 : m ≤ 20) (ht : t < p.bs.length) : G_law_users [.d (pbD p), .d (stD ((m : Int), a, b)), .d (.int row), .d (.int t)] w = some (.ok (.d (.lst (il (lusersL p m row t)))), w) := by
  have hl := (h.bat t).1
  have hc : lLc [4] (bnd (aCons (eIx (eVar 1) (eC (.int 0))) aNil) fun xs => lft (rng1 xs)) (gSet 4) (tOf (eOp (gIn false) (eVar 2) (eCall 1 G_law_looked (aCons (eCall 4 G_law_part (aCons (eVar 0) (aCons (eVar 1) (aCons (eVar 4) (aCons (eVar 3) aNil))))) aNil)))) (eVar 4) ⟨[.dat (pbD p), .dat (stD ((m : Int), a, b)), .dat (.int row), .dat (.int t), .un], w⟩
      = some (.ok (il (lusersL p m row t)), ⟨[.dat (pbD p), .dat (stD ((m : Int), a, b)), .dat (.int row), .dat (.int t), .un], w⟩) := by
    rw [lusersL, ← il_flt (p := fun tr : Int => decide (row ∈ lookL (partL p m tr t))) (P := pLU p m row t) (F := id) (fun _ => rfl) (fun _ => rfl)]
    refine lLc_flt (q0 := ⟨[.dat (pbD p), .dat (stD ((m : Int), a, b)), .dat (.int row), .dat (.int t), .un], w⟩) (pLU p m row t) id (rng1_len (n := m) (eIx_d rfl rfl rfl) (by omega)) (by rw [il_len, rg_len]; exact Nat.le_trans hm2 (by decide)) rfl fun d hd => ?_
    obtain ⟨tr, _, rfl⟩ := List.mem_map.mp hd
    have hp := part_len (p := p) (n := m) (tr := tr) (t := t)
    exact ⟨_, rfl, rfl, tOf_ok (eOp_ok (y := .lst (il (lookL (partL p m tr t)))) rfl (by exact eCall_w (aCons_ok (eCall_w (aCons_ok rfl (aCons_ok rfl (aCons_ok rfl (aCons_ok rfl rfl)))) rfl (part_ok h (by omega) ht)) rfl) rfl (look_ok rfl (by omega) (part_s h))) gIn_ls), fun _ => rfl⟩
  exact fnG_rt (q := ⟨[.dat (pbD p), .dat (stD ((m : Int), a, b)), .dat (.int row), .dat (.int t), .un], w⟩) (sRet_ok (eL_ok hc))
theorem users_eq {p : Pb} {m : Nat} {row : Int} {t : Nat} (hm : 0 < m) : lusersL p m row t = usersL p m row t := by
  refine srt_set (flt_pw (rg_pw _ _)) fun x => ?_
  unfold lusersL
  rw [List.mem_filter, rg_mem, decide_eq_true_eq, look_mem, idx_mem]
  constructor
  · rintro ⟨⟨h1, h2⟩, s, h3, h4⟩
    obtain ⟨k, h5, h6⟩ := part_mem.mp h3
    exact ⟨k, s, h5, h4, by rw [← h6]; congr 2; omega⟩
  · rintro ⟨i, s, h1, h2, h3⟩
    have h0 := Int.emod_nonneg ((0 + i : Nat) : Int) (b := (m : Int)) (by omega)
    have h4 := Int.emod_lt_of_pos ((0 + i : Nat) : Int) (b := (m : Int)) (by omega)
    exact ⟨⟨by omega, by omega⟩, s, part_mem.mpr ⟨i, h1, by rw [← h3]; congr 2; omega⟩, h2⟩
theorem used_eq {row : Int} {b : List Sm} : decide (row ∈ lookL b) = usedB row b := by
  unfold usedB
  rw [Bool.eq_iff_iff, decide_eq_true_eq, look_mem, List.any_eq_true]
  simp
def pLS (p : Pb) (row : Int) : D → Bool
  | .int t => decide (row ∈ lookL (bat p t.toNat))
  | _ => false
theorem luses_ok {p : Pb} {f : Nat} {row : Int} {w : List WO} (h : okQ p) (hf : f ≤ p.bs.length) : G_law_uses [.d (pbD p), .d (.int f), .d (.int row)] w = some (.ok (.d (.lst (il (usesL p f row)))), w) := by
  have hb := h.b
  have e : usesL p f row = (rg f (p.bs.length - f)).filter fun t => decide (row ∈ lookL (bat p t.toNat)) := by
    unfold usesL
    congr 1
    funext t
    exact used_eq.symm
  have hc : lLc [3] (bnd (aCons (eVar 1) (aCons (eCB gLen (aCons (eIx (eVar 0) (eC (.int 1))) aNil)) aNil)) fun xs => lft (rng2 xs)) (gSet 3) (tOf (eOp (gIn false) (eVar 2) (eCall 1 G_law_looked (aCons (eIx (eIx (eVar 0) (eC (.int 1))) (eVar 3)) aNil)))) (eVar 3) ⟨[.dat (pbD p), .dat (.int f), .dat (.int row), .un], w⟩
      = some (.ok (il (usesL p f row)), ⟨[.dat (pbD p), .dat (.int f), .dat (.int row), .un], w⟩) := by
    rw [e, ← il_flt (p := fun t : Int => decide (row ∈ lookL (bat p t.toNat))) (P := pLS p row) (F := id) (fun _ => rfl) (fun _ => rfl)]
    refine lLc_flt (q0 := ⟨[.dat (pbD p), .dat (.int f), .dat (.int row), .un], w⟩) (pLS p row) id (rng2_len (b := p.bs.length) rfl (eCB1_ok (eIx_d rfl rfl rfl) (by show some (D.int _) = _; rw [List.length_map])) (by omega) (by omega)) (by rw [il_len, rg_len]; exact Nat.le_trans (show p.bs.length - f ≤ 20 by omega) (by decide)) rfl fun d hd => ?_
    obtain ⟨t, ht, rfl⟩ := List.mem_map.mp hd
    have ht' := rg_mem.mp ht
    obtain ⟨k, rfl⟩ : ∃ k : Nat, t = k := ⟨t.toNat, by omega⟩
    have hk : k < p.bs.length := by omega
    have h1 : ixD (.tup (p.bs.map btD)) (.int (k : Int)) = some (btD (bat p k)) := atI_map [] hk
    have hq := h.bat k
    exact ⟨_, rfl, rfl, tOf_ok (eOp_ok (y := .lst (il (lookL (bat p k)))) rfl (by exact eCall_w (aCons_ok (eIx_d (eIx_d rfl rfl rfl) rfl h1) rfl) rfl (look_ok rfl (by omega) hq.2)) gIn_ls), fun _ => rfl⟩
  exact fnG_rt (q := ⟨[.dat (pbD p), .dat (.int f), .dat (.int row), .un], w⟩) (sRet_ok (eL_ok hc))
/-! ### stays, found the other way -/
def lsr (row wd : Int) : Option Int → List Int → List St3
  | _, [] => []
  | o, [b] => [(row, o.getD b, b)]
  | o, b :: c :: l => if b + wd < c then (row, o.getD b, b) :: lsr row wd none (c :: l) else lsr row wd (some (o.getD b)) (c :: l)
theorem lsr_some {row wd : Int} : ∀ (l : List Int) (b : Int), lsr row wd (some b) (b :: l) = lsr row wd none (b :: l)
  | [], b => rfl
  | c :: l, b => rfl
theorem fold_lsr {row wd : Int} : ∀ (l : List Int) (b o : Int) (acc : List St3), l.foldl (stp row wd) (acc ++ [(row, o, b)]) = acc ++ lsr row wd (some o) (b :: l)
  | [], b, o, acc => rfl
  | c :: l, b, o, acc => by
    have hs : stp row wd (acc ++ [(row, o, b)]) c = if c ≤ b + wd then acc ++ [(row, o, c)] else acc ++ [(row, o, b)] ++ [(row, c, c)] := by
      unfold stp
      rw [List.getLast?_concat]
      show (if c ≤ b + wd then (acc ++ [(row, o, b)]).dropLast ++ [(row, o, c)] else acc ++ [(row, o, b)] ++ [(row, c, c)]) = _
      rw [List.dropLast_concat]
    rw [List.foldl_cons, hs]
    show _ = acc ++ (if b + wd < c then (row, o, b) :: lsr row wd none (c :: l) else lsr row wd (some o) (c :: l))
    by_cases e : c ≤ b + wd
    · rw [if_pos e, if_neg (by omega), fold_lsr l c o acc]
    · rw [if_neg e, if_pos (by omega), fold_lsr l c c (acc ++ [(row, o, b)]), lsr_some, List.append_assoc]
      rfl
theorem srow_lsr {row wd : Int} : ∀ l : List Int, srowL row wd l = lsr row wd none l
  | [] => rfl
  | b :: l => by
    have h := fold_lsr (row := row) (wd := wd) l b b []
    rw [lsr_some] at h
    exact h
end Den

namespace Den
open PySem PySem.Spec PyProof.Rows L2
open Evl (Ex)
def optD : Option Int → D
  | none => .non
  | some i => .int i
abbrev T6 (p : Pb) (s : St3) (f : Nat) (w : List WO) (L : List St3) (row : Int) (us : List Int) (o : Option Int) (x7 : Sl) : Stt := ⟨[.dat (pbD p), .dat (stD s), .dat (.int f), .ol (L.map trD), .dat (.int row), .dat (.lst (il us)), .dat (optD o), x7], w⟩
theorem il_at {l : List Int} {k : Nat} (hk : k < l.length) : ixD (.lst (il l)) (.int (k : Int)) = some (.int l[k]) := by
  have h := ixD_ls (l := l) (i := (k : Int)) (by omega) (by omega)
  rw [h, Int.toNat_natCast, List.getD_eq_getElem?_getD, List.getElem?_eq_getElem hk]
  rfl
theorem lrow_ok {p : Pb} {n wd a : Int} {f : Nat} {w : List WO} {row : Int} {us : List Int} {L0 : List St3} {x7 : Sl} (hl : L0.length + us.length ≤ 1000) :
    ∃ o x7', loopD (gSet 7) lb_law_stays_0 (il (rg 0 us.length)) (T6 p (n, wd, a) f w L0 row us none x7) = some (.nx (T6 p (n, wd, a) f w (L0 ++ lsr row wd none us) row us o x7')) := by
  obtain ⟨q, h1, k, o, L, x7', e1, e0, rfl, e3, e4⟩ := loopD_inv (a := gSet 7) (g := lb_law_stays_0)
    (fun es q => ∃ (k : Nat) (o : Option Int) (L : List St3) (x7 : Sl), es = il (rg k (us.length - k)) ∧ k ≤ us.length ∧ q = T6 p (n, wd, a) f w L row us o x7 ∧ L ++ lsr row wd o (us.drop k) = L0 ++ lsr row wd none us ∧ L.length + (us.length - k) ≤ 1000)
    (fun d es q ⟨k, o, L, x7, e1, e0, e2, e3, e4⟩ => by
      have hk : k < us.length := by
        rcases Nat.lt_or_ge k us.length with h | h
        · exact h
        · rw [show us.length - k = 0 by omega] at e1
          cases e1
      obtain ⟨m, hm⟩ : ∃ m, us.length - k = m + 1 := ⟨us.length - k - 1, by omega⟩
      rw [hm, ← iota_rg, iota, iota_rg] at e1
      obtain ⟨rfl, rfl⟩ := List.cons.inj e1
      have hds : il (rg ((k : Int) + 1) m) = il (rg ((k + 1 : Nat) : Int) (us.length - (k + 1))) := by
        rw [show m = us.length - (k + 1) by omega]
        congr 1
      subst e2
      have hdr : us.drop k = us[k] :: us.drop (k + 1) := List.drop_eq_getElem_cons hk
      rw [hdr] at e3
      have hix := il_at hk
      have h1 : sIf (tOf (eOp gIsN (eVar 6) (eC .non))) (sAsg (eIx (eVar 5) (eVar 7)) (gSet 6)) sNext (T6 p (n, wd, a) f w L row us o (.dat (.int k))) = some (.nx (T6 p (n, wd, a) f w L row us (some (o.getD us[k])) (.dat (.int k)))) := by
        cases o with
        | none => exact sIf_t (tOf_ok rfl) (sAsg_ok (eIx_d rfl rfl hix) rfl)
        | some i => exact sIf_f (tOf_ok rfl) rfl
      have hlen : gLen [.lst (il us)] = some (.int us.length) := congrArg (fun k : Nat => some (D.int k)) il_len
      have app : ∀ (c : ME Bool), c (T6 p (n, wd, a) f w L row us (some (o.getD us[k])) (.dat (.int k))) = some (.ok true, T6 p (n, wd, a) f w L row us (some (o.getD us[k])) (.dat (.int k))) →
          sIf c (sSeq (sDrop (eM1V gApp 3 (eTup (aCons (eVar 4) (aCons (eVar 6) (aCons (eIx (eVar 5) (eVar 7)) aNil)))))) (sAsg (eC .non) (gSet 6))) sNext (T6 p (n, wd, a) f w L row us (some (o.getD us[k])) (.dat (.int k))) = some (.nx (T6 p (n, wd, a) f w (L ++ [(row, o.getD us[k], us[k])]) row us none (.dat (.int k)))) := by
        intro c hc
        refine sIf_t hc (sSeq_to (sDrop_ok (eM1V_ok (y := .non) (x := trD (row, o.getD us[k], us[k])) (q1 := T6 p (n, wd, a) f w L row us (some (o.getD us[k])) (.dat (.int k))) rfl (eTup_ok (aCons_ok rfl (aCons_ok rfl (aCons_ok (eIx_d rfl rfl hix) rfl))) rfl (show 3 ≤ big by decide)) rfl (gApp_ok (by rw [List.length_map]; exact Nat.lt_of_lt_of_le (show L.length < 1001 by omega) (by decide))))) (sAsg_ok rfl ?_))
        show gSet 6 _ _ = some (⟨[.dat (pbD p), .dat (stD (n, wd, a)), .dat (.int f), .ol ((L ++ [(row, o.getD us[k], us[k])]).map trD), .dat (.int row), .dat (.lst (il us)), .dat (optD none), .dat (.int k)], w⟩ : Stt)
        rw [List.map_append]
        rfl
      by_cases c1 : k + 1 = us.length
      · have hd0 : us.drop (k + 1) = [] := List.drop_eq_nil_of_le (by omega)
        rw [hd0] at e3
        refine ⟨_, _, rfl, sSeq_to h1 (app _ (tOr_t (tOf_ok (eOp_ok (eOp_ok rfl rfl rfl) (eCB1_ok rfl hlen) ?_)))), k + 1, none, L ++ [(row, o.getD us[k], us[k])], _, hds, by omega, rfl, ?_, ?_⟩
        · show some (D.bl (decide ((k : Int) + 1 = (us.length : Int)))) = _
          rw [decide_eq_true (by omega)]
        · rw [hd0, ← e3]
          show (L ++ [(row, o.getD us[k], us[k])]) ++ [] = _
          rw [List.append_nil]
          cases o <;> rfl
        · rw [List.length_append]
          show L.length + 1 + _ ≤ 1000
          omega
      · have hk1 : k + 1 < us.length := by omega
        have hdr1 : us.drop (k + 1) = us[k + 1] :: us.drop (k + 1 + 1) := List.drop_eq_getElem_cons hk1
        rw [hdr1] at e3
        have hix1 : ixD (.lst (il us)) (.int ((k : Int) + 1)) = some (.int us[k + 1]) := il_at (k := k + 1) hk1
        have hne : gEq (.int ((k : Int) + 1)) (.int us.length) = some (.bl false) := by
          show some (D.bl (decide ((k : Int) + 1 = (us.length : Int)))) = _
          rw [decide_eq_false (by omega)]
        by_cases c2 : us[k] + wd < us[k + 1]
        · refine ⟨_, _, rfl, sSeq_to h1 (app _ (tOr_f (tOf_ok (eOp_ok (eOp_ok rfl rfl rfl) (eCB1_ok rfl hlen) hne)) (tOf_ok (eOp_ok (eIx_d rfl (eOp_ok rfl rfl rfl) hix1) (eOp_ok (eIx_d rfl rfl hix) (eIx_d rfl rfl rfl) rfl) ?_)))), k + 1, none, L ++ [(row, o.getD us[k], us[k])], _, hds, by omega, rfl, ?_, ?_⟩
          · show some (D.bl (decide (us[k] + wd < us[k + 1]))) = _
            rw [decide_eq_true c2]
          · rw [hdr1, ← e3]
            show _ = L ++ (if us[k] + wd < us[k + 1] then (row, o.getD us[k], us[k]) :: lsr row wd none (us[k + 1] :: us.drop (k + 1 + 1)) else _)
            rw [if_pos c2, List.append_assoc]
            rfl
          · rw [List.length_append]
            show L.length + 1 + _ ≤ 1000
            omega
        · refine ⟨_, _, rfl, sSeq_to h1 (sIf_f (tOr_f (tOf_ok (eOp_ok (eOp_ok rfl rfl rfl) (eCB1_ok rfl hlen) hne)) (tOf_ok (eOp_ok (eIx_d rfl (eOp_ok rfl rfl rfl) hix1) (eOp_ok (eIx_d rfl rfl hix) (eIx_d rfl rfl rfl) rfl) ?_))) rfl), k + 1, some (o.getD us[k]), L, _, hds, by omega, rfl, ?_, by omega⟩
          · show some (D.bl (decide (us[k] + wd < us[k + 1]))) = _
            rw [decide_eq_false c2]
          · rw [hdr1, ← e3]
            show _ = L ++ (if us[k] + wd < us[k + 1] then _ else lsr row wd (some (o.getD us[k])) (us[k + 1] :: us.drop (k + 1 + 1)))
            rw [if_neg c2])
    (il (rg 0 us.length)) _ ⟨0, none, L0, x7, rfl, Nat.zero_le _, rfl, rfl, by omega⟩
  have hk : k = us.length := by
    rcases Nat.lt_or_ge k us.length with h | h
    · obtain ⟨m, hm⟩ : ∃ m, us.length - k = m + 1 := ⟨us.length - k - 1, by omega⟩
      rw [hm, ← iota_rg, iota] at e1
      cases e1
    · omega
  subst hk
  rw [List.drop_length] at e3
  have e3' : L = L0 ++ lsr row wd none us := by
    rw [← e3]
    cases o <;> simp [lsr]
  subst e3'
  exact ⟨o, x7', h1⟩
theorem lstays_ok {p : Pb} {n wd a : Int} {f : Nat} {w : List WO} (h : okQ p) (hf : f ≤ p.bs.length) : G_law_stays [.d (pbD p), .d (stD (n, wd, a)), .d (.int f)] w = some (.ok (.d (.tup ((staysL p wd f).map trD))), w) := by
  obtain ⟨q, h1, bs, L, x4, x5, x6, x7, e1, rfl, e3, e4⟩ := loopD_inv (a := gSet 4) (g := lb_law_stays_1)
    (fun es q => ∃ (bs : List Int) (L : List St3) (x4 x5 x6 x7 : Sl), es = il bs ∧ q = ⟨[.dat (pbD p), .dat (stD (n, wd, a)), .dat (.int f), .ol (L.map trD), x4, x5, x6, x7], w⟩ ∧ L ++ bs.flatMap (fun r => srowL r wd (usesL p f r)) = staysL p wd f ∧ L.length + 20 * bs.length ≤ 400)
    (fun d es q ⟨bs, L, x4, x5, x6, x7, e1, e2, e3, e4⟩ => by
      cases bs with
      | nil => cases e1
      | cons r bs =>
        obtain ⟨rfl, rfl⟩ := List.cons.inj e1
        subst e2
        have hu := uses_len (f := f) (row := r) h
        have hs := srow_len (row := r) (wd := wd) (usesL p f r) []
        have hs' : (srowL r wd (usesL p f r)).length ≤ 20 := by
          show ((usesL p f r).foldl (stp r wd) []).length ≤ 20
          simp at hs
          omega
        have e4' : L.length + 20 * (bs.length + 1) ≤ 400 := e4
        have hlen : gLen [.lst (il (usesL p f r))] = some (.int (usesL p f r).length) := congrArg (fun k : Nat => some (D.int k)) il_len
        obtain ⟨o, x7', hlp⟩ := lrow_ok (p := p) (n := n) (wd := wd) (a := a) (f := f) (w := w) (row := r) (us := usesL p f r) (L0 := L) (x7 := x7) (by omega)
        rw [← srow_lsr] at hlp
        refine ⟨_, _, rfl, sSeq_to (sAsg_ok (by exact eCall_w (aCons_ok rfl (aCons_ok rfl (aCons_ok rfl rfl))) rfl (luses_ok h hf)) rfl) (sSeq_to (sAsg_ok rfl rfl) (sFor_ok (rng1_len (n := (usesL p f r).length) (eCB1_ok rfl hlen) (by omega)) (by exact hlp))), bs, L ++ srowL r wd (usesL p f r), _, _, _, _, rfl, rfl, ?_, ?_⟩
        · rw [← e3, List.flatMap_cons, List.append_assoc]
        · rw [List.length_append]
          omega)
    (il (rg 0 p.rows.length)) ⟨[.dat (pbD p), .dat (stD (n, wd, a)), .dat (.int f), .ol [], .un, .un, .un, .un], w⟩ ⟨rg 0 p.rows.length, [], .un, .un, .un, .un, rfl, rfl, rfl, by
      have := h.n
      rw [rg_len]
      show 0 + 20 * p.rows.length ≤ 400
      omega⟩
  have hb : bs = [] := by
    cases bs with
    | nil => rfl
    | cons b bs => cases e1
  subst hb
  have e3' : L = staysL p wd f := by
    rw [← e3]
    simp
  subst e3'
  have hlen : gLen [.tup (il p.rows)] = some (.int p.rows.length) := congrArg (fun k : Nat => some (D.int k)) il_len
  have hn := h.n
  exact fnG_rt (q := ⟨[.dat (pbD p), .dat (stD (n, wd, a)), .dat (.int f), .ol ((staysL p wd f).map trD), x4, x5, x6, x7], w⟩) (sSeq_to (sSetL_ok (lLst_ok rfl rfl (Nat.zero_le _)) (by exact (show 3 < 8 by decide)))
    (sSeq_to (sFor_ok (rng1_len (n := p.rows.length) (eCB1_ok (eIx_d rfl rfl rfl) hlen) (by omega)) h1) (sRet_ok (eCBV_ok rfl rfl))))
end Den

namespace Den
open PySem PySem.Spec PyProof.Rows L2
open Evl (Ex)
/-! ### events -/
def ev3 (k : Str) (t r : Int) : D := .tup [.str k, .int r, .int t]
def ev4 (k : Str) (t : Int) (x : Int × Int) : D := .tup [.str k, .int x.1, .int t, .int x.2]
def opL (known : List St3) (t : Int) : List Int := (known.filter fun x => decide (x.2.1 = t)).map (·.1)
def clL (known : List St3) (t : Int) : List Int := (known.filter fun x => decide (x.2.2 = t)).map (·.1)
def hoL (p : Pb) (m : Nat) (t : Nat) : List (Int × Int) := (rg 0 p.rows.length).flatMap fun r => (usersL p m r t).map fun u => (r, u)
def evB (p : Pb) (m : Nat) (known : List St3) (t : Int) : List D :=
  (opL known t).map (ev3 "request" t) ++ (opL known t).map (ev3 "read" t) ++ (opL known t).map (ev3 "reply" t) ++ (hoL p m t.toNat).map (ev4 "value" t) ++ (rg 0 m).map (ev3 "compute" t) ++ (hoL p m t.toNat).map (ev4 "update" t) ++ (clL known t).map (ev3 "write" t) ++ (clL known t).map (ev3 "ack" t)
def eventsL (p : Pb) (m : Nat) (wd : Int) (f : Nat) : List D := (rg f (p.bs.length - f)).flatMap (evB p m (staysL p wd f))
theorem stays_len {p : Pb} {wd : Int} {f : Nat} (h : okQ p) : (staysL p wd f).length ≤ 400 := by
  have k : ∀ bs : List Int, (bs.flatMap fun r => srowL r wd (usesL p f r)).length ≤ 20 * bs.length := by
    intro bs
    induction bs with
    | nil => exact Nat.le_refl _
    | cons r bs ih =>
      rw [List.flatMap_cons, List.length_append]
      have hu := uses_len (f := f) (row := r) h
      have hs := srow_len (row := r) (wd := wd) (usesL p f r) []
      have hs' : (srowL r wd (usesL p f r)).length ≤ 20 := by
        show ((usesL p f r).foldl (stp r wd) []).length ≤ 20
        simp at hs
        omega
      show _ ≤ 20 * (bs.length + 1)
      omega
  have h1 := k (rg 0 p.rows.length)
  have h2 := h.n
  rw [rg_len] at h1
  exact Nat.le_trans h1 (by omega)
theorem users_len {p : Pb} {m : Nat} {row : Int} {t : Nat} (hm : 0 < m) : (usersL p m row t).length ≤ m := by
  rw [← users_eq hm]
  unfold lusersL
  exact Nat.le_trans (List.length_filter_le _ _) (by rw [rg_len]; exact Nat.le_refl _)
theorem op_len {known : List St3} {t : Int} : (opL known t).length ≤ known.length := by
  unfold opL
  rw [List.length_map]
  exact List.length_filter_le _ _
theorem cl_len {known : List St3} {t : Int} : (clL known t).length ≤ known.length := by
  unfold clL
  rw [List.length_map]
  exact List.length_filter_le _ _
theorem ho_len {p : Pb} {m t : Nat} (h : okQ p) (hm : 0 < m) (hm2 : m ≤ 20) : (hoL p m t).length ≤ 400 := by
  have k : ∀ bs : List Int, (bs.flatMap fun r => (usersL p m r t).map fun u => (r, u)).length ≤ 20 * bs.length := by
    intro bs
    induction bs with
    | nil => exact Nat.le_refl _
    | cons r bs ih =>
      rw [List.flatMap_cons, List.length_append, List.length_map]
      have hu := users_len (p := p) (row := r) (t := t) hm
      show _ ≤ 20 * (bs.length + 1)
      omega
  have h1 := k (rg 0 p.rows.length)
  have h2 := h.n
  rw [rg_len] at h1
  exact Nat.le_trans h1 (by omega)
theorem evB_len {p : Pb} {m : Nat} {known : List St3} {t : Int} (h : okQ p) (hm : 0 < m) (hm2 : m ≤ 20) (hk : known.length ≤ 400) : (evB p m known t).length ≤ 3000 := by
  have h1 := op_len (known := known) (t := t)
  have h2 := cl_len (known := known) (t := t)
  have h3 := ho_len (t := t.toNat) h hm hm2
  unfold evB
  simp only [List.length_append, List.length_map, rg_len]
  omega
def pr (x : Int × Int) : D := .tup [.int x.1, .int x.2]
theorem handovers_ok {p : Pb} {m : Nat} {a b : Int} {t : Nat} {w : List WO} (h : okQ p) (hm : 0 < m) (hm2 : m ≤ 20) (ht : t < p.bs.length) : G_handovers [.d (pbD p), .d (stD ((m : Int), a, b)), .d (.int t)] w = some (.ok (.d (.lst ((hoL p m t).map pr))), w) := by
  have hlen : gLen [.tup (il p.rows)] = some (.int p.rows.length) := congrArg (fun k : Nat => some (D.int k)) il_len
  have hn := h.n
  have hcat : ((il (rg 0 p.rows.length)).flatMap fun d => ((fun d : D => match d with | .int r => il (usersL p m r t) | _ => []) d).map ((fun d e : D => D.tup [d, e]) d)) = (hoL p m t).map pr := by
    have k : ∀ bs : List Int, ((il bs).flatMap fun d => ((fun d : D => match d with | .int r => il (usersL p m r t) | _ => []) d).map ((fun d e : D => D.tup [d, e]) d)) = (bs.flatMap fun r => (usersL p m r t).map fun u => (r, u)).map pr := by
      intro bs
      induction bs with
      | nil => rfl
      | cons r bs ih =>
        rw [List.flatMap_cons, List.map_append, ← ih, List.map_map]
        show (D.int r :: il bs).flatMap _ = _
        rw [List.flatMap_cons]
        congr 1
        show (il (usersL p m r t)).map _ = _
        unfold il
        rw [List.map_map]
        rfl
    exact k _
  have hho := ho_len (t := t) h hm hm2
  have hc : lLc2 [4, 5] (bnd (aCons (eVar 3) aNil) fun xs => lft (rng1 xs)) (gSet 4) (ret true) [5] (iOf (eCall 4 G_users (aCons (eVar 0) (aCons (eVar 1) (aCons (eVar 4) (aCons (eVar 2) aNil)))))) (gSet 5) (ret true) (eTup (aCons (eVar 4) (aCons (eVar 5) aNil))) ⟨[.dat (pbD p), .dat (stD ((m : Int), a, b)), .dat (.int t), .dat (.int p.rows.length), .un, .un], w⟩
      = some (.ok ((hoL p m t).map pr), ⟨[.dat (pbD p), .dat (stD ((m : Int), a, b)), .dat (.int t), .dat (.int p.rows.length), .un, .un], w⟩) := by
    rw [← hcat]
    refine lLc2_ok (fun d : D => match d with | .int r => il (usersL p m r t) | _ => []) (fun d e : D => D.tup [d, e]) (q0 := ⟨[.dat (pbD p), .dat (stD ((m : Int), a, b)), .dat (.int t), .dat (.int p.rows.length), .un, .un], w⟩) (rng1_len (n := p.rows.length) rfl (by omega)) rfl (fun d hd => ?_) (by rw [hcat, List.length_map]; exact Nat.le_trans hho (by decide))
    obtain ⟨r, _, rfl⟩ := List.mem_map.mp hd
    refine ⟨_, rfl, iOf_ok (by exact eCall_w (aCons_ok rfl (aCons_ok rfl (aCons_ok rfl (aCons_ok rfl rfl)))) rfl (users_ok h (by omega) ht)) rfl, rfl, fun e he => ?_⟩
    obtain ⟨u, _, rfl⟩ := List.mem_map.mp he
    exact ⟨_, rfl, eTup_ok (aCons_ok rfl (aCons_ok rfl rfl)) rfl (show 2 ≤ big by decide), rfl⟩
  exact fnG_rt (q := ⟨[.dat (pbD p), .dat (stD ((m : Int), a, b)), .dat (.int t), .dat (.int p.rows.length), .un, .un], w⟩) (sSeq_to (sAsg_ok (eCB1_ok (eIx_d rfl rfl rfl) hlen) rfl) (sRet_ok (eL_ok hc)))
def pOp (t : Int) : D → Bool
  | .tup [_, .int o, _] => decide (o = t)
  | _ => false
def pCl (t : Int) : D → Bool
  | .tup [_, _, .int o] => decide (o = t)
  | _ => false
def fFst : D → D
  | .tup (x :: _) => x
  | _ => .non
theorem op_eq {known : List St3} {t : Int} : ((known.map trD).filter (pOp t)).map fFst = il (opL known t) := by
  rw [flt_map, il, opL, List.map_map]
  rfl
theorem cl_eq {known : List St3} {t : Int} : ((known.map trD).filter (pCl t)).map fFst = il (clL known t) := by
  rw [flt_map, il, clL, List.map_map]
  rfl
def fE3 (k : Str) (t : Int) : D → D
  | .int r => ev3 k t r
  | _ => .non
def fE4 (k : Str) (t : Int) : D → D
  | .tup [.int r, .int u] => ev4 k t (r, u)
  | _ => .non
theorem e3_eq {k : Str} {t : Int} {l : List Int} : (il l).map (fE3 k t) = l.map (ev3 k t) := by
  rw [il, List.map_map]
  rfl
theorem e4_eq {k : Str} {t : Int} {l : List (Int × Int)} : (l.map pr).map (fE4 k t) = l.map (ev4 k t) := by
  rw [List.map_map]
  rfl
theorem gAdd_ls {xs ys : List D} (h : xs.length + ys.length ≤ 100000) : gAdd (.lst xs) (.lst ys) = some (.lst (xs ++ ys)) := by
  show (if xs.length + ys.length ≤ big then some (D.lst (xs ++ ys)) else none) = _
  rw [if_pos (show xs.length + ys.length ≤ big from h)]
end Den

namespace Den
open PySem PySem.Spec PyProof.Rows L2
open Evl (Ex)
abbrev V7 (p : Pb) (s : St3) (kn : List St3) (t : Nat) (w : List WO) (x4 x5 x6 : Sl) : Stt := ⟨[.dat (pbD p), .dat (stD s), .dat (.tup (kn.map trD)), .dat (.int t), x4, x5, x6, .un, .un, .un, .un, .un], w⟩
section
variable {p : Pb} {m : Nat} {a b : Int} {kn : List St3} {t : Nat} {w : List WO}
theorem one3 {k : Str} {l : List Int} {i : Nat} {x4 x5 x6 : Sl} (hl : l.length ≤ 1000) (hv : eVar i (V7 p ((m : Int), a, b) kn t w x4 x5 x6) = some (.ok (.d (.lst (il l))), V7 p ((m : Int), a, b) kn t w x4 x5 x6)) :
    eL (lLc [7] (iOf (eVar i)) (gSet 7) (ret true) (eTup (aCons (eC (.str k)) (aCons (eVar 7) (aCons (eVar 3) aNil))))) (V7 p ((m : Int), a, b) kn t w x4 x5 x6) = some (.ok (.d (.lst (l.map (ev3 k t)))), V7 p ((m : Int), a, b) kn t w x4 x5 x6) := by
  rw [← e3_eq]
  refine eL_ok (lLc_pure (fE3 k t) (q0 := V7 p ((m : Int), a, b) kn t w x4 x5 x6) (iOf_ok hv rfl) (by rw [il_len]; exact Nat.le_trans hl (by decide)) rfl fun d hd => ?_)
  obtain ⟨r, _, rfl⟩ := List.mem_map.mp hd
  exact ⟨_, rfl, rfl, eTup_ok (aCons_ok rfl (aCons_ok rfl (aCons_ok rfl rfl))) rfl (show 3 ≤ big by decide)⟩
theorem one4 {k : Str} {l : List (Int × Int)} {i : Nat} {x4 x5 x6 : Sl} (hl : l.length ≤ 1000) (hv : eVar i (V7 p ((m : Int), a, b) kn t w x4 x5 x6) = some (.ok (.d (.lst (l.map pr))), V7 p ((m : Int), a, b) kn t w x4 x5 x6)) :
    eL (lLc [7, 10] (iOf (eVar i)) (gTupD 2 (gsCons (gSet 7) (gsCons (gSet 10) gsNil))) (ret true) (eTup (aCons (eC (.str k)) (aCons (eVar 7) (aCons (eVar 3) (aCons (eVar 10) aNil)))))) (V7 p ((m : Int), a, b) kn t w x4 x5 x6) = some (.ok (.d (.lst (l.map (ev4 k t)))), V7 p ((m : Int), a, b) kn t w x4 x5 x6) := by
  rw [← e4_eq]
  refine eL_ok (lLc_pure (fE4 k t) (q0 := V7 p ((m : Int), a, b) kn t w x4 x5 x6) (iOf_ok hv rfl) (by rw [List.length_map]; exact Nat.le_trans hl (by decide)) rfl fun d hd => ?_)
  obtain ⟨r, _, rfl⟩ := List.mem_map.mp hd
  exact ⟨_, rfl, rfl, eTup_ok (aCons_ok rfl (aCons_ok rfl (aCons_ok rfl (aCons_ok rfl rfl)))) rfl (show 4 ≤ big by decide)⟩
theorem oneC {x4 x5 x6 : Sl} (hm2 : m ≤ 20) : eL (lLc [11] (bnd (aCons (eIx (eVar 1) (eC (.int 0))) aNil) fun xs => lft (rng1 xs)) (gSet 11) (ret true) (eTup (aCons (eC (.str "compute")) (aCons (eVar 11) (aCons (eVar 3) aNil))))) (V7 p ((m : Int), a, b) kn t w x4 x5 x6) = some (.ok (.d (.lst ((rg 0 m).map (ev3 "compute" t)))), V7 p ((m : Int), a, b) kn t w x4 x5 x6) := by
  rw [← e3_eq]
  refine eL_ok (lLc_pure (fE3 "compute" t) (q0 := V7 p ((m : Int), a, b) kn t w x4 x5 x6) (rng1_len (n := m) (eIx_d rfl rfl rfl) (by omega)) (by rw [il_len, rg_len]; exact Nat.le_trans hm2 (by decide)) rfl fun d hd => ?_)
  obtain ⟨r, _, rfl⟩ := List.mem_map.mp hd
  exact ⟨_, rfl, rfl, eTup_ok (aCons_ok rfl (aCons_ok rfl (aCons_ok rfl rfl))) rfl (show 3 ≤ big by decide)⟩
theorem batch_ok (h : okQ p) (hm : 0 < m) (hm2 : m ≤ 20) (ht : t < p.bs.length) (hk : kn.length ≤ 400) : G_events_of_batch [.d (pbD p), .d (stD ((m : Int), a, b)), .d (.tup (kn.map trD)), .d (.int t)] w = some (.ok (.d (.lst (evB p m kn t))), w) := by
  have h1 := op_len (known := kn) (t := t)
  have h2 := cl_len (known := kn) (t := t)
  have h3 := ho_len (t := t) h hm hm2
  have hc1 : lLc [7, 8, 9] (iOf (eVar 2)) (gTupD 3 (gsCons (gSet 7) (gsCons (gSet 8) (gsCons (gSet 9) gsNil)))) (tOf (eOp gEq (eVar 8) (eVar 3))) (eVar 7) (V7 p ((m : Int), a, b) kn t w .un .un .un) = some (.ok (il (opL kn t)), V7 p ((m : Int), a, b) kn t w .un .un .un) := by
    rw [← op_eq]
    refine lLc_flt (pOp t) fFst (q0 := V7 p ((m : Int), a, b) kn t w .un .un .un) rfl (by rw [List.length_map]; exact Nat.le_trans hk (by decide)) rfl fun d hd => ?_
    obtain ⟨x, _, rfl⟩ := List.mem_map.mp hd
    exact ⟨_, rfl, rfl, tOf_ok (eOp_ok rfl rfl rfl), fun _ => rfl⟩
  have hc2 : lLc [7, 8, 9] (iOf (eVar 2)) (gTupD 3 (gsCons (gSet 7) (gsCons (gSet 8) (gsCons (gSet 9) gsNil)))) (tOf (eOp gEq (eVar 9) (eVar 3))) (eVar 7) (V7 p ((m : Int), a, b) kn t w (.dat (.lst (il (opL kn t)))) .un .un) = some (.ok (il (clL kn t)), V7 p ((m : Int), a, b) kn t w (.dat (.lst (il (opL kn t)))) .un .un) := by
    rw [← cl_eq]
    refine lLc_flt (pCl t) fFst (q0 := V7 p ((m : Int), a, b) kn t w (.dat (.lst (il (opL kn t)))) .un .un) rfl (by rw [List.length_map]; exact Nat.le_trans hk (by decide)) rfl fun d hd => ?_
    obtain ⟨x, _, rfl⟩ := List.mem_map.mp hd
    exact ⟨_, rfl, rfl, tOf_ok (eOp_ok rfl rfl rfl), fun _ => rfl⟩
  obtain ⟨Q, hQ⟩ : ∃ Q, Q = V7 p ((m : Int), a, b) kn t w (.dat (.lst (il (opL kn t)))) (.dat (.lst (il (clL kn t)))) (.dat (.lst ((hoL p m t).map pr))) := ⟨_, rfl⟩
  have o4 : eVar 4 Q = some (.ok (.d (.lst (il (opL kn t)))), Q) := by rw [hQ]; rfl
  have o5 : eVar 5 Q = some (.ok (.d (.lst (il (clL kn t)))), Q) := by rw [hQ]; rfl
  have o6 : eVar 6 Q = some (.ok (.d (.lst ((hoL p m t).map pr))), Q) := by rw [hQ]; rfl
  have a3 : ∀ k : Str, eL (lLc [7] (iOf (eVar 4)) (gSet 7) (ret true) (eTup (aCons (eC (.str k)) (aCons (eVar 7) (aCons (eVar 3) aNil))))) Q = some (.ok (.d (.lst ((opL kn t).map (ev3 k t)))), Q) := fun k => by
    rw [hQ] at o4 ⊢
    exact one3 (by omega) o4
  have c3 : ∀ k : Str, eL (lLc [7] (iOf (eVar 5)) (gSet 7) (ret true) (eTup (aCons (eC (.str k)) (aCons (eVar 7) (aCons (eVar 3) aNil))))) Q = some (.ok (.d (.lst ((clL kn t).map (ev3 k t)))), Q) := fun k => by
    rw [hQ] at o5 ⊢
    exact one3 (by omega) o5
  have b4 : ∀ k : Str, eL (lLc [7, 10] (iOf (eVar 6)) (gTupD 2 (gsCons (gSet 7) (gsCons (gSet 10) gsNil))) (ret true) (eTup (aCons (eC (.str k)) (aCons (eVar 7) (aCons (eVar 3) (aCons (eVar 10) aNil)))))) Q = some (.ok (.d (.lst ((hoL p m t).map (ev4 k t)))), Q) := fun k => by
    rw [hQ] at o6 ⊢
    exact one4 (by omega) o6
  have d3 : eL (lLc [11] (bnd (aCons (eIx (eVar 1) (eC (.int 0))) aNil) fun xs => lft (rng1 xs)) (gSet 11) (ret true) (eTup (aCons (eC (.str "compute")) (aCons (eVar 11) (aCons (eVar 3) aNil))))) Q = some (.ok (.d (.lst ((rg 0 m).map (ev3 "compute" t)))), Q) := by
    rw [hQ]
    exact oneC hm2
  have cat : ∀ {f1 f2 : ME XV} {xs ys : List D}, f1 Q = some (.ok (.d (.lst xs)), Q) → f2 Q = some (.ok (.d (.lst ys)), Q) → xs.length + ys.length ≤ 100000 → eOp gAdd f1 f2 Q = some (.ok (.d (.lst (xs ++ ys))), Q) := fun h1 h2 hl => eOp_ok h1 h2 (gAdd_ls hl)
  have hho : eCall 3 G_handovers (aCons (eVar 0) (aCons (eVar 1) (aCons (eVar 3) aNil))) (V7 p ((m : Int), a, b) kn t w (.dat (.lst (il (opL kn t)))) (.dat (.lst (il (clL kn t)))) .un) = some (.ok (.d (.lst ((hoL p m t).map pr))), V7 p ((m : Int), a, b) kn t w (.dat (.lst (il (opL kn t)))) (.dat (.lst (il (clL kn t)))) .un) :=
    eCall_w (aCons_ok rfl (aCons_ok rfl (aCons_ok rfl rfl))) rfl (handovers_ok h hm hm2 ht)
  have last : sAsg (eCall 3 G_handovers (aCons (eVar 0) (aCons (eVar 1) (aCons (eVar 3) aNil)))) (gSet 6) (V7 p ((m : Int), a, b) kn t w (.dat (.lst (il (opL kn t)))) (.dat (.lst (il (clL kn t)))) .un) = some (.nx Q) := by
    rw [hQ]
    exact sAsg_ok hho rfl
  have hw : w = Q.w := by rw [hQ]
  suffices hh : G_events_of_batch [.d (pbD p), .d (stD ((m : Int), a, b)), .d (.tup (kn.map trD)), .d (.int t)] w = some (.ok (.d (.lst (evB p m kn t))), Q.w) by
    rw [← hw] at hh
    exact hh
  refine fnG_rt (q := Q) (g := g_events_of_batch) ?_
  unfold g_events_of_batch
  refine sSeq_to (q1 := V7 p ((m : Int), a, b) kn t w (.dat (.lst (il (opL kn t)))) .un .un) (sAsg_ok (eL_ok hc1) rfl) ?_
  refine sSeq_to (q1 := V7 p ((m : Int), a, b) kn t w (.dat (.lst (il (opL kn t)))) (.dat (.lst (il (clL kn t)))) .un) (sAsg_ok (eL_ok hc2) rfl) ?_
  refine sSeq_to last (sRet_ok ?_)
  have h3' : (hoL p m (t : Int).toNat).length ≤ 400 := h3
  refine cat (cat (cat (cat (cat (cat (cat (a3 _) (a3 _) ?_) (a3 _) ?_) (b4 _) ?_) d3 ?_) (b4 _) ?_) (c3 _) ?_) (c3 _) ?_ <;> simp only [List.length_append, List.length_map, rg_len] <;> omega
theorem events_ok {wd ld : Int} {f : Nat} (h : okQ p) (hm : 0 < m) (hm2 : m ≤ 20) (hf : f ≤ p.bs.length) : G_events [.d (pbD p), .d (stD ((m : Int), wd, ld)), .d (.int f)] w = some (.ok (.d (.tup (eventsL p m wd f))), w) := by
  have hb := h.b
  have hkn := stays_len (p := p) (wd := wd) (f := f) h
  obtain ⟨q, h1, bs, L, x5, e1, rfl, e3, e4, e5⟩ := loopD_inv (a := gSet 5) (g := lb_events_0)
    (fun es q => ∃ (bs : List Int) (L : List D) (x5 : Sl), es = il bs ∧ q = ⟨[.dat (pbD p), .dat (stD ((m : Int), wd, ld)), .dat (.int f), .dat (.tup ((staysL p wd f).map trD)), .ol L, x5], w⟩ ∧ L ++ bs.flatMap (evB p m (staysL p wd f)) = eventsL p m wd f ∧ L.length + 3000 * bs.length ≤ 60000 ∧ ∀ t ∈ bs, 0 ≤ t ∧ t < p.bs.length)
    (fun d es q ⟨bs, L, x5, e1, e2, e3, e4, e5⟩ => by
      cases bs with
      | nil => cases e1
      | cons t bs =>
        obtain ⟨rfl, rfl⟩ := List.cons.inj e1
        subst e2
        have ht := e5 t (by simp)
        obtain ⟨k, rfl⟩ : ∃ k : Nat, t = k := ⟨t.toNat, by omega⟩
        have hl := evB_len (p := p) (m := m) (known := staysL p wd f) (t := k) h hm hm2 hkn
        have e4' : L.length + 3000 * (bs.length + 1) ≤ 60000 := e4
        refine ⟨_, _, rfl, sDrop_ok (eM1V_ok rfl (by exact eCall_w (aCons_ok rfl (aCons_ok rfl (aCons_ok rfl (aCons_ok rfl rfl)))) rfl (batch_ok h hm hm2 (by omega) hkn)) rfl (gExt_ok ?_)), bs, L ++ evB p m (staysL p wd f) k, .dat (.int k), rfl, rfl, ?_, ?_, fun t m => e5 t (by simp [m])⟩
        · exact Nat.le_trans (show _ ≤ 60000 by omega) (by decide)
        · rw [← e3, List.flatMap_cons, List.append_assoc]
        · rw [List.length_append]
          omega)
    (il (rg f (p.bs.length - f))) ⟨[.dat (pbD p), .dat (stD ((m : Int), wd, ld)), .dat (.int f), .dat (.tup ((staysL p wd f).map trD)), .ol [], .un], w⟩ ⟨rg f (p.bs.length - f), [], .un, rfl, rfl, rfl, by
      rw [rg_len]
      show 0 + 3000 * (p.bs.length - f) ≤ 60000
      omega, fun t m => by
      have := rg_mem.mp m
      omega⟩
  have hb0 : bs = [] := by
    cases bs with
    | nil => rfl
    | cons b bs => cases e1
  subst hb0
  have e3' : L = eventsL p m wd f := by
    rw [← e3]
    simp
  subst e3'
  have hlen : gLen [.tup (p.bs.map btD)] = some (.int p.bs.length) := by
    show some (D.int _) = _
    rw [List.length_map]
  exact fnG_rt (q := ⟨[.dat (pbD p), .dat (stD ((m : Int), wd, ld)), .dat (.int f), .dat (.tup ((staysL p wd f).map trD)), .ol (eventsL p m wd f), x5], w⟩) (sSeq_to (sAsg_ok (eCall_w (aCons_ok rfl (aCons_ok rfl (aCons_ok rfl rfl))) rfl (stays_ok h hf)) rfl) (sSeq_to (sSetL_ok (lLst_ok rfl rfl (Nat.zero_le _)) (by exact (show 4 < 6 by decide)))
    (sSeq_to (sFor_ok (rng2_len (b := p.bs.length) rfl (eCB1_ok (eIx_d rfl rfl rfl) hlen) (by omega) (by omega)) (by exact h1)) (sRet_ok (eCBV_ok rfl rfl)))))
end
end Den

namespace Den
open PySem PySem.Spec PyProof.Rows L2
open Evl (Ex)
theorem loopD_to {a : XV → Stt → Option Stt} {g : MS} {d : D} {ds : List D} {q q1 q2 : Stt} {z : Option Fl} (h1 : a (.d d) q = some q1) (h2 : g q1 = some (.nx q2)) (h3 : loopD a g ds q2 = z) : loopD a g (d :: ds) q = z := by
  simp only [loopD, h1, h2, h3]
abbrev Z3 (p : Pb) (s : St3) (f : Nat) (kn : List St3) (t : Nat) (w : List WO) (L : List D) (x6 x7 x8 x9 x10 : Sl) : Stt := ⟨[.dat (pbD p), .dat (stD s), .dat (.int f), .dat (.tup (kn.map trD)), .ol L, .dat (.int t), x6, x7, x8, x9, x10, .un, .un, .un], w⟩
section
variable {p : Pb} {m : Nat} {a b : Int} {f : Nat} {kn : List St3} {t : Nat} {w : List WO} {L : List D} {x6 x7 x8 x9 x10 : Sl}
theorem bk6 {s : St3} (h6 : keepS (some x6) = x6) : backQ (Z3 p s f kn t w L x6 x7 x8 x9 x10) (wipeQ (Z3 p s f kn t w L x6 x7 x8 x9 x10) [6]) [6] = Z3 p s f kn t w L x6 x7 x8 x9 x10 := by
  show (⟨[.dat (pbD p), .dat (stD s), .dat (.int f), .dat (.tup (kn.map trD)), .ol L, .dat (.int t), keepS (some x6), x7, x8, x9, x10, .un, .un, .un], w⟩ : Stt) = _
  rw [h6]
theorem bk613 {s : St3} (h6 : keepS (some x6) = x6) : backQ (Z3 p s f kn t w L x6 x7 x8 x9 x10) (wipeQ (Z3 p s f kn t w L x6 x7 x8 x9 x10) [6, 13]) [6, 13] = Z3 p s f kn t w L x6 x7 x8 x9 x10 := back_id fun i hi y e => by
  simp only [List.mem_cons, List.not_mem_nil, or_false] at hi
  rcases hi with rfl | rfl
  · cases e
    exact h6
  · cases e
    rfl
theorem bk61112 {s : St3} (h6 : keepS (some x6) = x6) : backQ (Z3 p s f kn t w L x6 x7 x8 x9 x10) (wipeQ (Z3 p s f kn t w L x6 x7 x8 x9 x10) [6, 11, 12]) [6, 11, 12] = Z3 p s f kn t w L x6 x7 x8 x9 x10 := back_id fun i hi y e => by
  simp only [List.mem_cons, List.not_mem_nil, or_false] at hi
  rcases hi with rfl | rfl | rfl
  · cases e
    exact h6
  · cases e
    rfl
  · cases e
    rfl
theorem app4 {fe : ME XV} {s : St3} {ys : List D} (h : fe (Z3 p s f kn t w L x6 x7 x8 x9 x10) = some (.ok (.d (.lst ys)), Z3 p s f kn t w L x6 x7 x8 x9 x10)) (hl : L.length + ys.length ≤ 100000) :
    sDrop (eM1V gExt 4 fe) (Z3 p s f kn t w L x6 x7 x8 x9 x10) = some (.nx (Z3 p s f kn t w (L ++ ys) x6 x7 x8 x9 x10)) :=
  sDrop_ok (q1 := Z3 p s f kn t w (L ++ ys) x6 x7 x8 x9 x10) (x := .d .non) (by exact eM1V_ok (d0 := L) (x := .lst ys) (q1 := Z3 p s f kn t w L x6 x7 x8 x9 x10) rfl h rfl (gExt_ok (show L.length + ys.length ≤ big from hl)))
theorem k3 {k : Str} {s : St3} {l : List Int} {i : Nat} (h6 : keepS (some x6) = x6) (hl : l.length ≤ 1000) (hv : eVar i (Z3 p s f kn t w L x6 x7 x8 x9 (.dat (.str k))) = some (.ok (.d (.lst (il l))), Z3 p s f kn t w L x6 x7 x8 x9 (.dat (.str k)))) :
    eL (lLc [6] (iOf (eVar i)) (gSet 6) (ret true) (eTup (aCons (eVar 10) (aCons (eVar 6) (aCons (eVar 5) aNil))))) (Z3 p s f kn t w L x6 x7 x8 x9 (.dat (.str k))) = some (.ok (.d (.lst (l.map (ev3 k t)))), Z3 p s f kn t w L x6 x7 x8 x9 (.dat (.str k))) := by
  rw [← e3_eq]
  refine eL_ok (lLc_pure (fE3 k t) (q0 := Z3 p s f kn t w L x6 x7 x8 x9 (.dat (.str k))) (iOf_ok hv rfl) (by rw [il_len]; exact Nat.le_trans hl (by decide)) (bk6 h6) fun d hd => ?_)
  obtain ⟨r, _, rfl⟩ := List.mem_map.mp hd
  exact ⟨_, rfl, rfl, eTup_ok (aCons_ok rfl (aCons_ok rfl (aCons_ok rfl rfl))) rfl (show 3 ≤ big by decide)⟩
theorem k4 {k : Str} {s : St3} {l : List (Int × Int)} (h6 : keepS (some x6) = x6) (hl : l.length ≤ 1000) :
    eL (lLc [6, 13] (iOf (eVar 9)) (gTupD 2 (gsCons (gSet 6) (gsCons (gSet 13) gsNil))) (ret true) (eTup (aCons (eC (.str k)) (aCons (eVar 6) (aCons (eVar 5) (aCons (eVar 13) aNil)))))) (Z3 p s f kn t w L x6 x7 x8 (.dat (.lst (l.map pr))) x10) = some (.ok (.d (.lst (l.map (ev4 k t)))), Z3 p s f kn t w L x6 x7 x8 (.dat (.lst (l.map pr))) x10) := by
  rw [← e4_eq]
  refine eL_ok (lLc_pure (fE4 k t) (q0 := Z3 p s f kn t w L x6 x7 x8 (.dat (.lst (l.map pr))) x10) rfl (by rw [List.length_map]; exact Nat.le_trans hl (by decide)) (bk613 h6) fun d hd => ?_)
  obtain ⟨r, _, rfl⟩ := List.mem_map.mp hd
  exact ⟨_, rfl, rfl, eTup_ok (aCons_ok rfl (aCons_ok rfl (aCons_ok rfl (aCons_ok rfl rfl)))) rfl (show 4 ≤ big by decide)⟩
theorem kC (hm2 : m ≤ 20) : eL (lLc [13] (bnd (aCons (eIx (eVar 1) (eC (.int 0))) aNil) fun xs => lft (rng1 xs)) (gSet 13) (ret true) (eTup (aCons (eC (.str "compute")) (aCons (eVar 13) (aCons (eVar 5) aNil))))) (Z3 p ((m : Int), a, b) f kn t w L x6 x7 x8 x9 x10) = some (.ok (.d (.lst ((rg 0 m).map (ev3 "compute" t)))), Z3 p ((m : Int), a, b) f kn t w L x6 x7 x8 x9 x10) := by
  rw [← e3_eq]
  refine eL_ok (lLc_pure (fE3 "compute" t) (q0 := Z3 p ((m : Int), a, b) f kn t w L x6 x7 x8 x9 x10) (rng1_len (n := m) (eIx_d rfl rfl rfl) (by omega)) (by rw [il_len, rg_len]; exact Nat.le_trans hm2 (by decide)) rfl fun d hd => ?_)
  obtain ⟨r, _, rfl⟩ := List.mem_map.mp hd
  exact ⟨_, rfl, rfl, eTup_ok (aCons_ok rfl (aCons_ok rfl (aCons_ok rfl rfl))) rfl (show 3 ≤ big by decide)⟩
theorem kO (h6 : keepS (some x6) = x6) (hk : kn.length ≤ 400) {s : St3} : eL (lLc [6, 11, 12] (iOf (eVar 3)) (gTupD 3 (gsCons (gSet 6) (gsCons (gSet 11) (gsCons (gSet 12) gsNil)))) (tOf (eOp gEq (eVar 11) (eVar 5))) (eVar 6)) (Z3 p s f kn t w L x6 x7 x8 x9 x10) = some (.ok (.d (.lst (il (opL kn t)))), Z3 p s f kn t w L x6 x7 x8 x9 x10) := by
  rw [← op_eq]
  refine eL_ok (lLc_flt (pOp t) fFst (q0 := Z3 p s f kn t w L x6 x7 x8 x9 x10) rfl (by rw [List.length_map]; exact Nat.le_trans hk (by decide)) (bk61112 h6) fun d hd => ?_)
  obtain ⟨x, _, rfl⟩ := List.mem_map.mp hd
  exact ⟨_, rfl, rfl, tOf_ok (eOp_ok rfl rfl rfl), fun _ => rfl⟩
theorem kK (h6 : keepS (some x6) = x6) (hk : kn.length ≤ 400) {s : St3} : eL (lLc [6, 11, 12] (iOf (eVar 3)) (gTupD 3 (gsCons (gSet 6) (gsCons (gSet 11) (gsCons (gSet 12) gsNil)))) (tOf (eOp gEq (eVar 12) (eVar 5))) (eVar 6)) (Z3 p s f kn t w L x6 x7 x8 x9 x10) = some (.ok (.d (.lst (il (clL kn t)))), Z3 p s f kn t w L x6 x7 x8 x9 x10) := by
  rw [← cl_eq]
  refine eL_ok (lLc_flt (pCl t) fFst (q0 := Z3 p s f kn t w L x6 x7 x8 x9 x10) rfl (by rw [List.length_map]; exact Nat.le_trans hk (by decide)) (bk61112 h6) fun d hd => ?_)
  obtain ⟨x, _, rfl⟩ := List.mem_map.mp hd
  exact ⟨_, rfl, rfl, tOf_ok (eOp_ok rfl rfl rfl), fun _ => rfl⟩
def fPr (r : Int) : D → D
  | .int u => pr (r, u)
  | _ => .non
theorem pairs_ok (h : okQ p) (hm : 0 < m) (hm2 : m ≤ 20) (ht : t < p.bs.length) (h6 : keepS (some x6) = x6) : ∃ x6', keepS (some x6') = x6' ∧ loopD (gSet 6) lb_law_events_0 (il (rg 0 p.rows.length)) (Z3 p ((m : Int), a, b) f kn t w L x6 x7 x8 (.ol []) x10) = some (.nx (Z3 p ((m : Int), a, b) f kn t w L x6' x7 x8 (.ol ((hoL p m t).map pr)) x10)) := by
  obtain ⟨q, h1, bs, M, x6', e1, rfl, e3, e4, e5⟩ := loopD_inv (a := gSet 6) (g := lb_law_events_0)
    (fun es q => ∃ (bs : List Int) (M : List (Int × Int)) (x6 : Sl), es = il bs ∧ q = Z3 p ((m : Int), a, b) f kn t w L x6 x7 x8 (.ol (M.map pr)) x10 ∧ M ++ bs.flatMap (fun r => (usersL p m r t).map fun u => (r, u)) = hoL p m t ∧ M.length + 20 * bs.length ≤ 400 ∧ keepS (some x6) = x6)
    (fun d es q ⟨bs, M, x6, e1, e2, e3, e4, e5⟩ => by
      cases bs with
      | nil => cases e1
      | cons r bs =>
        obtain ⟨rfl, rfl⟩ := List.cons.inj e1
        subst e2
        have hu := users_len (p := p) (row := r) (t := t) hm
        have e4' : M.length + 20 * (bs.length + 1) ≤ 400 := e4
        have k2 := lusers_ok (p := p) (m := m) (a := a) (b := b) (row := r) (t := t) (w := w) h hm hm2 ht
        rw [users_eq hm] at k2
        have hc : eL (lLc [13] (iOf (eCall 4 G_law_users (aCons (eVar 0) (aCons (eVar 1) (aCons (eVar 6) (aCons (eVar 5) aNil)))))) (gSet 13) (ret true) (eTup (aCons (eVar 6) (aCons (eVar 13) aNil)))) (Z3 p ((m : Int), a, b) f kn t w L (.dat (.int r)) x7 x8 (.ol (M.map pr)) x10) = some (.ok (.d (.lst ((il (usersL p m r t)).map (fPr r)))), Z3 p ((m : Int), a, b) f kn t w L (.dat (.int r)) x7 x8 (.ol (M.map pr)) x10) := by
          refine eL_ok (lLc_pure (fPr r) (q0 := Z3 p ((m : Int), a, b) f kn t w L (.dat (.int r)) x7 x8 (.ol (M.map pr)) x10) (ds := il (usersL p m r t)) (iOf_ok (by exact eCall_w (aCons_ok rfl (aCons_ok rfl (aCons_ok rfl (aCons_ok rfl rfl)))) rfl k2) rfl) (by rw [il_len]; exact Nat.le_trans hu (Nat.le_trans hm2 (by decide))) rfl fun d hd => ?_)
          obtain ⟨u, _, rfl⟩ := List.mem_map.mp hd
          exact ⟨_, rfl, rfl, eTup_ok (aCons_ok rfl (aCons_ok rfl rfl)) rfl (show 2 ≤ big by decide)⟩
        have hmp : (il (usersL p m r t)).map (fPr r) = ((usersL p m r t).map fun u => (r, u)).map pr := by
          rw [il, List.map_map, List.map_map]
          rfl
        rw [hmp] at hc
        refine ⟨_, Z3 p ((m : Int), a, b) f kn t w L (.dat (.int r)) x7 x8 (.ol ((M ++ (usersL p m r t).map fun u => (r, u)).map pr)) x10, rfl, sDrop_ok (x := .d .non) (by
          rw [List.map_append]
          exact eM1V_ok (d0 := M.map pr) (q1 := Z3 p ((m : Int), a, b) f kn t w L (.dat (.int r)) x7 x8 (.ol (M.map pr)) x10) rfl hc rfl (gExt_ok (by
            rw [List.length_map, List.length_map, List.length_map]
            exact Nat.le_trans (show _ ≤ 400 by omega) (by decide)))), bs, M ++ (usersL p m r t).map fun u => (r, u), .dat (.int r), rfl, rfl, ?_, ?_, rfl⟩
        · rw [← e3, List.flatMap_cons, List.append_assoc]
        · rw [List.length_append, List.length_map]
          omega)
    (il (rg 0 p.rows.length)) _ ⟨rg 0 p.rows.length, [], x6, rfl, rfl, rfl, by
      have := h.n
      rw [rg_len]
      show 0 + 20 * p.rows.length ≤ 400
      omega, h6⟩
  have hb0 : bs = [] := by
    cases bs with
    | nil => rfl
    | cons b bs => cases e1
  subst hb0
  have e3' : M = hoL p m t := by
    rw [← e3]
    simp
  subst e3'
  exact ⟨x6', e5, h1⟩
end
end Den

namespace Den
open PySem PySem.Spec PyProof.Rows L2
open Evl (Ex)
section
variable {p : Pb} {m : Nat} {a b : Int} {f : Nat} {kn : List St3} {t : Nat} {w : List WO} {L : List D} {x6 x7 x8 x9 x9' x10 : Sl}
theorem app4' {fe : ME XV} {s : St3} {ys : List D} (h : fe (Z3 p s f kn t w L x6 x7 x8 x9 x10) = some (.ok (.d (.lst ys)), Z3 p s f kn t w L x6 x7 x8 x9' x10)) (hl : L.length + ys.length ≤ 100000) :
    sDrop (eM1V gExt 4 fe) (Z3 p s f kn t w L x6 x7 x8 x9 x10) = some (.nx (Z3 p s f kn t w (L ++ ys) x6 x7 x8 x9' x10)) :=
  sDrop_ok (q1 := Z3 p s f kn t w (L ++ ys) x6 x7 x8 x9' x10) (x := .d .non) (by exact eM1V_ok (d0 := L) (x := .lst ys) (q1 := Z3 p s f kn t w L x6 x7 x8 x9' x10) rfl h rfl (gExt_ok (show L.length + ys.length ≤ big from hl)))
theorem k4' {k : Str} {s : St3} {l : List (Int × Int)} (h6 : keepS (some x6) = x6) (hl : l.length ≤ 1000) :
    eL (lLc [6, 13] (iOf (eVar 9)) (gTupD 2 (gsCons (gSet 6) (gsCons (gSet 13) gsNil))) (ret true) (eTup (aCons (eC (.str k)) (aCons (eVar 6) (aCons (eVar 5) (aCons (eVar 13) aNil)))))) (Z3 p s f kn t w L x6 x7 x8 (.ol (l.map pr)) x10) = some (.ok (.d (.lst (l.map (ev4 k t)))), Z3 p s f kn t w L x6 x7 x8 (.dat (.lst (l.map pr))) x10) := by
  rw [← e4_eq]
  refine eL_ok (lLc_pure (fE4 k t) (q0 := Z3 p s f kn t w L x6 x7 x8 (.dat (.lst (l.map pr))) x10) (ds := l.map pr) rfl (by rw [List.length_map]; exact Nat.le_trans hl (by decide)) (bk613 h6) fun d hd => ?_)
  obtain ⟨r, _, rfl⟩ := List.mem_map.mp hd
  exact ⟨_, rfl, rfl, eTup_ok (aCons_ok rfl (aCons_ok rfl (aCons_ok rfl (aCons_ok rfl rfl)))) rfl (show 4 ≤ big by decide)⟩
theorem body_ok {x5 : Sl} (h : okQ p) (hm : 0 < m) (hm2 : m ≤ 20) (ht : t < p.bs.length) (hk : kn.length ≤ 400) (h6 : keepS (some x6) = x6) (hL : L.length ≤ 60000) :
    ∃ x6' x7' x8' x9' x10', keepS (some x6') = x6' ∧ lb_law_events_3 (Z3 p ((m : Int), a, b) f kn t w L x6 x7 x8 x9 x10) = some (.nx (Z3 p ((m : Int), a, b) f kn t w (L ++ evB p m kn t) x6' x7' x8' x9' x10')) := by
  have h1 := op_len (known := kn) (t := t)
  have h2 := cl_len (known := kn) (t := t)
  have h3 := ho_len (t := t) h hm hm2
  have hlenr : gLen [.tup (il p.rows)] = some (.int p.rows.length) := congrArg (fun k : Nat => some (D.int k)) il_len
  have hn := h.n
  obtain ⟨x6', h6', hp⟩ := pairs_ok (p := p) (m := m) (a := a) (b := b) (f := f) (kn := kn) (t := t) (w := w) (L := L) (x6 := x6) (x7 := .dat (.lst (il (opL kn t)))) (x8 := .dat (.lst (il (clL kn t)))) (x10 := x10) h hm hm2 ht h6
  obtain ⟨A, hA⟩ : ∃ A : Str → List D, A = fun k => (opL kn t).map (ev3 k t) := ⟨_, rfl⟩
  obtain ⟨Cc, hC⟩ : ∃ A : Str → List D, A = fun k => (clL kn t).map (ev3 k t) := ⟨_, rfl⟩
  obtain ⟨Hh, hH⟩ : ∃ A : Str → List D, A = fun k => (hoL p m t).map (ev4 k t) := ⟨_, rfl⟩
  have eA : ∀ k, A k = (opL kn t).map (ev3 k t) := fun k => by rw [hA]
  have eC : ∀ k, Cc k = (clL kn t).map (ev3 k t) := fun k => by rw [hC]
  have eH : ∀ k, Hh k = (hoL p m t).map (ev4 k t) := fun k => by rw [hH]
  have lA : ∀ k, (A k).length ≤ 400 := fun k => by rw [hA]; show ((opL kn t).map _).length ≤ 400; rw [List.length_map]; omega
  have lC : ∀ k, (Cc k).length ≤ 400 := fun k => by rw [hC]; show ((clL kn t).map _).length ≤ 400; rw [List.length_map]; omega
  have lH : ∀ k, (Hh k).length ≤ 400 := fun k => by rw [hH]; show ((hoL p m t).map _).length ≤ 400; rw [List.length_map]; omega
  have hev : L ++ evB p m kn t = L ++ A "request" ++ A "read" ++ A "reply" ++ Hh "value" ++ (rg 0 m).map (ev3 "compute" t) ++ Hh "update" ++ Cc "write" ++ Cc "ack" := by
    rw [hA, hC, hH]
    unfold evB
    simp only [List.append_assoc]
    rfl
  have l1 : ∀ (M : List D) (k : Str) (y9 y10 : Sl), M.length ≤ 70000 → lb_law_events_1 (Z3 p ((m : Int), a, b) f kn t w M x6' (.dat (.lst (il (opL kn t)))) (.dat (.lst (il (clL kn t)))) y9 (.dat (.str k))) = some (.nx (Z3 p ((m : Int), a, b) f kn t w (M ++ A k) x6' (.dat (.lst (il (opL kn t)))) (.dat (.lst (il (clL kn t)))) y9 (.dat (.str k)))) := fun M k y9 y10 hM => by
    have := lA k
    rw [eA] at this ⊢
    exact app4 (k3 (i := 7) h6' (by omega) rfl) (by show M.length + ((opL kn t).map (ev3 k t)).length ≤ 100000; omega)
  have l2 : ∀ (M : List D) (k : Str) (y9 y10 : Sl), M.length ≤ 70000 → lb_law_events_2 (Z3 p ((m : Int), a, b) f kn t w M x6' (.dat (.lst (il (opL kn t)))) (.dat (.lst (il (clL kn t)))) y9 (.dat (.str k))) = some (.nx (Z3 p ((m : Int), a, b) f kn t w (M ++ Cc k) x6' (.dat (.lst (il (opL kn t)))) (.dat (.lst (il (clL kn t)))) y9 (.dat (.str k)))) := fun M k y9 y10 hM => by
    have := lC k
    rw [eC] at this ⊢
    exact app4 (k3 (i := 8) h6' (by omega) rfl) (by show M.length + ((clL kn t).map (ev3 k t)).length ≤ 100000; omega)
  refine ⟨x6', .dat (.lst (il (opL kn t))), .dat (.lst (il (clL kn t))), .dat (.lst ((hoL p m t).map pr)), .dat (.str "ack"), h6', ?_⟩
  rw [hev]
  have b1 := lA "request"
  have b2 := lA "read"
  have b3 := lA "reply"
  have b4 := lH "value"
  have b5 := lH "update"
  have b6 := lC "write"
  have b7 : ((rg 0 m).map (ev3 "compute" t)).length ≤ 20 := by rw [List.length_map, rg_len]; exact hm2
  refine sSeq_to (q1 := Z3 p ((m : Int), a, b) f kn t w L x6 (.dat (.lst (il (opL kn t)))) x8 x9 x10) (sAsg_ok (kO h6 hk) rfl) ?_
  refine sSeq_to (q1 := Z3 p ((m : Int), a, b) f kn t w L x6 (.dat (.lst (il (opL kn t)))) (.dat (.lst (il (clL kn t)))) x9 x10) (sAsg_ok (kK h6 hk) rfl) ?_
  refine sSeq_to (q1 := Z3 p ((m : Int), a, b) f kn t w L x6 (.dat (.lst (il (opL kn t)))) (.dat (.lst (il (clL kn t)))) (.ol []) x10) rfl ?_
  refine sSeq_to (sFor_ok (rng1_len (n := p.rows.length) (eCB1_ok (eIx_d rfl rfl rfl) hlenr) (by omega)) (by exact hp)) ?_
  refine sSeq_to (q1 := Z3 p ((m : Int), a, b) f kn t w (L ++ A "request" ++ A "read" ++ A "reply") x6' (.dat (.lst (il (opL kn t)))) (.dat (.lst (il (clL kn t)))) (.ol ((hoL p m t).map pr)) (.dat (.str "reply"))) (sFor_ok (ds := [.str "request", .str "read", .str "reply"]) rfl (loopD_to rfl (l1 _ _ _ .un (by omega)) (loopD_to rfl (l1 _ _ _ .un (by rw [List.length_append]; omega)) (loopD_to rfl (l1 _ _ _ .un (by rw [List.length_append, List.length_append]; omega)) rfl)))) ?_
  refine sSeq_to (q1 := Z3 p ((m : Int), a, b) f kn t w (L ++ A "request" ++ A "read" ++ A "reply" ++ Hh "value") x6' (.dat (.lst (il (opL kn t)))) (.dat (.lst (il (clL kn t)))) (.dat (.lst ((hoL p m t).map pr))) (.dat (.str "reply"))) (by
    rw [eH] at b4 ⊢
    exact app4' (k4' h6' (by omega)) (by simp only [List.length_append]; omega)) ?_
  refine sSeq_to (q1 := Z3 p ((m : Int), a, b) f kn t w (L ++ A "request" ++ A "read" ++ A "reply" ++ Hh "value" ++ (rg 0 m).map (ev3 "compute" t)) x6' (.dat (.lst (il (opL kn t)))) (.dat (.lst (il (clL kn t)))) (.dat (.lst ((hoL p m t).map pr))) (.dat (.str "reply"))) (app4 (kC hm2) (by simp only [List.length_append]; omega)) ?_
  refine sSeq_to (q1 := Z3 p ((m : Int), a, b) f kn t w (L ++ A "request" ++ A "read" ++ A "reply" ++ Hh "value" ++ (rg 0 m).map (ev3 "compute" t) ++ Hh "update") x6' (.dat (.lst (il (opL kn t)))) (.dat (.lst (il (clL kn t)))) (.dat (.lst ((hoL p m t).map pr))) (.dat (.str "reply"))) (by
    rw [eH "value"] at b4 ⊢
    rw [eH "update"] at b5 ⊢
    exact app4 (k4 h6' (by omega)) (by simp only [List.length_append]; omega)) ?_
  exact sFor_ok (ds := [.str "write", .str "ack"]) rfl (loopD_to rfl (l2 _ _ _ .un (by simp only [List.length_append]; omega)) (loopD_to rfl (l2 _ _ _ .un (by simp only [List.length_append]; omega)) rfl))
end
end Den

namespace Den
open PySem PySem.Spec PyProof.Rows L2
open Evl (Ex)
theorem levents_ok {p : Pb} {m : Nat} {wd ld : Int} {f : Nat} {w : List WO} (h : okQ p) (hm : 0 < m) (hm2 : m ≤ 20) (hf : f ≤ p.bs.length) : G_law_events [.d (pbD p), .d (stD ((m : Int), wd, ld)), .d (.int f)] w = some (.ok (.d (.tup (eventsL p m wd f))), w) := by
  have hb := h.b
  have hkn := stays_len (p := p) (wd := wd) (f := f) h
  obtain ⟨q, h1, bs, L, x5, x6, x7, x8, x9, x10, e1, rfl, e3, e4, e5, e6⟩ := loopD_inv (a := gSet 5) (g := lb_law_events_3)
    (fun es q => ∃ (bs : List Int) (L : List D) (x5 x6 x7 x8 x9 x10 : Sl), es = il bs ∧ q = ⟨[.dat (pbD p), .dat (stD ((m : Int), wd, ld)), .dat (.int f), .dat (.tup ((staysL p wd f).map trD)), .ol L, x5, x6, x7, x8, x9, x10, .un, .un, .un], w⟩ ∧ L ++ bs.flatMap (evB p m (staysL p wd f)) = eventsL p m wd f ∧ L.length + 3000 * bs.length ≤ 60000 ∧ (∀ t ∈ bs, 0 ≤ t ∧ t < p.bs.length) ∧ keepS (some x6) = x6)
    (fun d es q ⟨bs, L, x5, x6, x7, x8, x9, x10, e1, e2, e3, e4, e5, e6⟩ => by
      cases bs with
      | nil => cases e1
      | cons t bs =>
        obtain ⟨rfl, rfl⟩ := List.cons.inj e1
        subst e2
        have ht := e5 t (by simp)
        obtain ⟨k, rfl⟩ : ∃ k : Nat, t = k := ⟨t.toNat, by omega⟩
        have hl := evB_len (p := p) (m := m) (known := staysL p wd f) (t := k) h hm hm2 hkn
        have e4' : L.length + 3000 * (bs.length + 1) ≤ 60000 := e4
        obtain ⟨x6', x7', x8', x9', x10', h6', hb⟩ := body_ok (p := p) (m := m) (a := wd) (b := ld) (f := f) (kn := staysL p wd f) (t := k) (w := w) (L := L) (x5 := .un) (x6 := x6) (x7 := x7) (x8 := x8) (x9 := x9) (x10 := x10) h hm hm2 (by omega) hkn e6 (by omega)
        refine ⟨_, _, rfl, hb, bs, L ++ evB p m (staysL p wd f) k, _, _, _, _, _, _, rfl, rfl, ?_, ?_, fun t m => e5 t (by simp [m]), h6'⟩
        · rw [← e3, List.flatMap_cons, List.append_assoc]
        · rw [List.length_append]
          omega)
    (il (rg f (p.bs.length - f))) ⟨[.dat (pbD p), .dat (stD ((m : Int), wd, ld)), .dat (.int f), .dat (.tup ((staysL p wd f).map trD)), .ol [], .un, .un, .un, .un, .un, .un, .un, .un, .un], w⟩ ⟨rg f (p.bs.length - f), [], .un, .un, .un, .un, .un, .un, rfl, rfl, rfl, by
      rw [rg_len]
      show 0 + 3000 * (p.bs.length - f) ≤ 60000
      omega, fun t m => by
      have := rg_mem.mp m
      omega, rfl⟩
  have hb0 : bs = [] := by
    cases bs with
    | nil => rfl
    | cons b bs => cases e1
  subst hb0
  have e3' : L = eventsL p m wd f := by
    rw [← e3]
    simp
  subst e3'
  have hlen : gLen [.tup (p.bs.map btD)] = some (.int p.bs.length) := by
    show some (D.int _) = _
    rw [List.length_map]
  exact fnG_rt (q := ⟨[.dat (pbD p), .dat (stD ((m : Int), wd, ld)), .dat (.int f), .dat (.tup ((staysL p wd f).map trD)), .ol (eventsL p m wd f), x5, x6, x7, x8, x9, x10, .un, .un, .un], w⟩) (sSeq_to (sAsg_ok (eCall_w (aCons_ok rfl (aCons_ok rfl (aCons_ok rfl rfl))) rfl (lstays_ok h hf)) rfl) (sSeq_to (sSetL_ok (lLst_ok rfl rfl (Nat.zero_le _)) (by exact (show 4 < 14 by decide)))
    (sSeq_to (sFor_ok (rng2_len (b := p.bs.length) rfl (eCB1_ok (eIx_d rfl rfl rfl) hlen) (by omega) (by omega)) (by exact h1)) (sRet_ok (eCBV_ok rfl rfl)))))
/-! ### how many rows -/
end Den

namespace Den
open PySem PySem.Spec PyProof.Rows L2
open Evl (Ex)
/-! ### stays and the window -/
def gst (row wd : Int) : Int → Int → List Int → List St3
  | o, b, [] => [(row, o, b)]
  | o, b, c :: l => if c ≤ b + wd then gst row wd o c l else (row, o, b) :: gst row wd c c l
theorem fold_gst {row wd : Int} : ∀ (l : List Int) (b o : Int) (acc : List St3), l.foldl (stp row wd) (acc ++ [(row, o, b)]) = acc ++ gst row wd o b l
  | [], b, o, acc => rfl
  | c :: l, b, o, acc => by
    have hs : stp row wd (acc ++ [(row, o, b)]) c = if c ≤ b + wd then acc ++ [(row, o, c)] else acc ++ [(row, o, b)] ++ [(row, c, c)] := by
      unfold stp
      rw [List.getLast?_concat]
      show (if c ≤ b + wd then (acc ++ [(row, o, b)]).dropLast ++ [(row, o, c)] else acc ++ [(row, o, b)] ++ [(row, c, c)]) = _
      rw [List.dropLast_concat]
    rw [List.foldl_cons, hs]
    unfold gst
    by_cases e : c ≤ b + wd
    · rw [if_pos e, if_pos e, fold_gst l c o acc]
    · rw [if_neg e, if_neg e, fold_gst l c c (acc ++ [(row, o, b)]), List.append_assoc]
      rfl
theorem srow_gst {row wd b : Int} {l : List Int} : srowL row wd (b :: l) = gst row wd b b l := fold_gst l b b []
theorem gst_in {row wd : Int} : ∀ (l : List Int) (b o : Int), o ≤ b → (b :: l).Pairwise (· < ·) → ∀ x ∈ gst row wd o b l, x.1 = row ∧ o ≤ x.2.1 ∧ b ≤ x.2.2 ∧ x.2.1 ≤ x.2.2
  | [], b, o, ho, _, x, hx => by
    have hx' : x ∈ [(row, o, b)] := hx
    rw [List.mem_singleton.mp hx']
    exact ⟨rfl, Int.le_refl _, Int.le_refl _, ho⟩
  | c :: l, b, o, ho, hp, x, hx => by
    have hp' := List.pairwise_cons.mp hp
    have hbc := hp'.1 c (by simp)
    unfold gst at hx
    by_cases e : c ≤ b + wd
    · rw [if_pos e] at hx
      have := gst_in l c o (by omega) hp'.2 x hx
      exact ⟨this.1, this.2.1, by omega, this.2.2.2⟩
    · rw [if_neg e] at hx
      rcases List.mem_cons.mp hx with rfl | hx
      · exact ⟨rfl, Int.le_refl _, Int.le_refl _, ho⟩
      · have := gst_in l c c (Int.le_refl _) hp'.2 x hx
        exact ⟨this.1, by omega, by omega, this.2.2.2⟩
theorem uses_pw {p : Pb} {f : Nat} {row : Int} : (usesL p f row).Pairwise (· < ·) := (rg_pw _ _).filter _
theorem srow_row {row wd : Int} {l : List Int} (hp : l.Pairwise (· < ·)) : ∀ x ∈ srowL row wd l, x.1 = row := fun x hx => by
  cases l with
  | nil => cases hx
  | cons b l =>
    rw [srow_gst] at hx
    exact (gst_in l b b (Int.le_refl _) hp x hx).1
theorem stays_in {p : Pb} {wd : Int} {f : Nat} {x : St3} (hx : x ∈ staysL p wd f) : x.1 ∈ rg 0 p.rows.length ∧ x ∈ srowL x.1 wd (usesL p f x.1) := by
  obtain ⟨r, hr, h⟩ := List.mem_flatMap.mp hx
  have e := srow_row uses_pw x h
  subst e
  exact ⟨hr, h⟩
/-! ### handovers do not ask for the window -/
/-! ### where stays open and close -/
theorem gst_pw {row wd : Int} : ∀ (l : List Int) (b o : Int), o ≤ b → (b :: l).Pairwise (· < ·) → (gst row wd o b l).Pairwise (fun x y => x.1 = y.1 ∧ x.2.1 < y.2.1 ∧ x.2.2 < y.2.2)
  | [], b, o, _, _ => List.pairwise_singleton _ _
  | c :: l, b, o, ho, hp => by
    have hp' := List.pairwise_cons.mp hp
    have hbc := hp'.1 c (by simp)
    unfold gst
    by_cases e : c ≤ b + wd
    · rw [if_pos e]
      exact gst_pw l c o (by omega) hp'.2
    · rw [if_neg e]
      refine List.pairwise_cons.mpr ⟨fun y hy => ?_, gst_pw l c c (Int.le_refl _) hp'.2⟩
      have := gst_in l c c (Int.le_refl _) hp'.2 y hy
      exact ⟨this.1.symm, by show o < y.2.1; omega, by show b < y.2.2; omega⟩
theorem gst_open {row wd : Int} : ∀ (l : List Int) (b o : Int), o ≤ b → (b :: l).Pairwise (· < ·) → ∀ x ∈ gst row wd o b l, x.2.1 = o ∨ (x.2.1 ∈ l ∧ ∀ u ∈ b :: l, u < x.2.1 → u + wd < x.2.1)
  | [], b, o, ho, _, x, hx => by
    have hx' : x ∈ [(row, o, b)] := hx
    rw [List.mem_singleton.mp hx']
    exact .inl rfl
  | c :: l, b, o, ho, hp, x, hx => by
    have hp' := List.pairwise_cons.mp hp
    have hp2 := List.pairwise_cons.mp hp'.2
    have hbc := hp'.1 c (by simp)
    unfold gst at hx
    by_cases e : c ≤ b + wd
    · rw [if_pos e] at hx
      rcases gst_open l c o (by omega) hp'.2 x hx with h | ⟨h1, h2⟩
      · exact .inl h
      · have hc := hp2.1 _ h1
        have hcw := h2 c (by simp) hc
        refine .inr ⟨by simp [h1], fun u hu hlt => ?_⟩
        rcases List.mem_cons.mp hu with rfl | hu
        · omega
        · exact h2 u hu hlt
    · rw [if_neg e] at hx
      rcases List.mem_cons.mp hx with rfl | hx
      · exact .inl rfl
      · rcases gst_open l c c (Int.le_refl _) hp'.2 x hx with h | ⟨h1, h2⟩
        · refine .inr ⟨by simp [h], fun u hu hlt => ?_⟩
          rcases List.mem_cons.mp hu with rfl | hu
          · omega
          · rcases List.mem_cons.mp hu with rfl | hu
            · omega
            · have := hp2.1 u hu
              omega
        · have hc := hp2.1 _ h1
          refine .inr ⟨by simp [h1], fun u hu hlt => ?_⟩
          rcases List.mem_cons.mp hu with rfl | hu
          · omega
          · exact h2 u hu hlt
theorem srow_pw {row wd : Int} {l : List Int} (hp : l.Pairwise (· < ·)) : (srowL row wd l).Pairwise (fun x y => x.1 = y.1 ∧ x.2.1 < y.2.1 ∧ x.2.2 < y.2.2) := by
  cases l with
  | nil => exact .nil
  | cons b l =>
    rw [srow_gst]
    exact gst_pw l b b (Int.le_refl _) hp
theorem srow_open {row wd : Int} {l : List Int} (hp : l.Pairwise (· < ·)) : ∀ x ∈ srowL row wd l, x.2.1 ∈ l ∧ ∀ u ∈ l, u < x.2.1 → u + wd < x.2.1 := fun x hx => by
  cases l with
  | nil => cases hx
  | cons b l =>
    rw [srow_gst] at hx
    rcases gst_open l b b (Int.le_refl _) hp x hx with h | ⟨h1, h2⟩
    · rw [h]
      refine ⟨by simp, fun u hu hlt => ?_⟩
      rcases List.mem_cons.mp hu with rfl | hu
      · omega
      · have := (List.pairwise_cons.mp hp).1 u hu
        omega
    · exact ⟨by simp [h1], h2⟩
theorem stays_pw {p : Pb} {wd : Int} {f : Nat} : (staysL p wd f).Pairwise (fun x y => x.1 < y.1 ∨ (x.1 = y.1 ∧ x.2.1 < y.2.1 ∧ x.2.2 < y.2.2)) := by
  unfold staysL
  rw [List.pairwise_flatMap]
  refine ⟨fun r _ => (srow_pw uses_pw).imp fun h => .inr h, (rg_pw _ _).imp fun {a b} h x hx y hy => .inl ?_⟩
  rw [srow_row uses_pw x hx, srow_row uses_pw y hy]
  exact h
theorem opL_nd {p : Pb} {wd t : Int} {f : Nat} : (opL (staysL p wd f) t).Nodup := by
  unfold opL
  refine List.Pairwise.map _ (R := fun x y => x.1 < y.1) (fun a b h => by show a.1 ≠ b.1; omega) ?_
  rw [List.pairwise_filter]
  refine stays_pw.imp fun {a b} h ha hb => ?_
  rw [decide_eq_true_eq] at ha hb
  rcases h with h | h
  · exact h
  · omega
theorem clL_nd {p : Pb} {wd t : Int} {f : Nat} : (clL (staysL p wd f) t).Nodup := by
  unfold clL
  refine List.Pairwise.map _ (R := fun x y => x.1 < y.1) (fun a b h => by show a.1 ≠ b.1; omega) ?_
  rw [List.pairwise_filter]
  refine stays_pw.imp fun {a b} h ha hb => ?_
  rw [decide_eq_true_eq] at ha hb
  rcases h with h | h
  · exact h
  · omega
theorem opL_mem {p : Pb} {wd t r : Int} {f : Nat} (h : r ∈ opL (staysL p wd f) t) : r ∈ rg 0 p.rows.length ∧ t ∈ usesL p f r ∧ ∀ u ∈ usesL p f r, u < t → u + wd < t := by
  obtain ⟨x, hx, rfl⟩ := List.mem_map.mp h
  rw [List.mem_filter, decide_eq_true_eq] at hx
  obtain ⟨h1, h2⟩ := stays_in hx.1
  have h3 := srow_open uses_pw x h2
  rw [hx.2] at h3
  exact ⟨h1, h3⟩
theorem clL_mem {p : Pb} {wd t r : Int} {f : Nat} (h : r ∈ clL (staysL p wd f) t) : r ∈ rg 0 p.rows.length := by
  obtain ⟨x, hx, rfl⟩ := List.mem_map.mp h
  rw [List.mem_filter, decide_eq_true_eq] at hx
  exact (stays_in hx.1).1
/-! ### the use before -/
def prv : List Int → Int → Option Int
  | a :: b :: l, t => if b = t then some a else prv (b :: l) t
  | _, _ => none
theorem prv_none : ∀ (l : List Int) (t : Int), (∀ u ∈ l, u ≠ t) → prv l t = none
  | [], _, _ => rfl
  | [_], _, _ => rfl
  | a :: b :: l, t, h => by
    unfold prv
    rw [if_neg (h b (by simp))]
    exact prv_none (b :: l) t fun u hu => h u (by simp [List.mem_cons.mp hu])
theorem prv_first {l : List Int} {b : Int} (hp : (b :: l).Pairwise (· < ·)) : prv (b :: l) b = none := by
  cases l with
  | nil => rfl
  | cons c l =>
    have hp' := List.pairwise_cons.mp hp
    have hbc := hp'.1 c (by simp)
    unfold prv
    rw [if_neg (by omega)]
    exact prv_none _ _ fun u hu => by have := hp'.1 u hu; omega
/-- the law's words: u is a use, and the first use behind it is t -/
def nxt (l : List Int) (u t : Int) : Prop := u ∈ l ∧ (l.filter fun v => decide (u < v)).take 1 = [t]
theorem flt_all {l : List Int} {u : Int} (h : ∀ v ∈ l, u < v) : (l.filter fun v => decide (u < v)) = l := List.filter_eq_self.mpr fun v hv => decide_eq_true (h v hv)
theorem prv_iff : ∀ (l : List Int) (t u : Int), l.Pairwise (· < ·) → (prv l t = some u ↔ nxt l u t)
  | [], t, u, _ => ⟨fun h => (by cases h), fun ⟨h, _⟩ => (by cases h)⟩
  | [a], t, u, _ => by
    refine ⟨fun h => (by cases h), fun ⟨h1, h2⟩ => ?_⟩
    rw [List.mem_singleton.mp h1] at h2
    have : ([a].filter fun v => decide (a < v)) = [] := by simp
    rw [this] at h2
    cases h2
  | a :: b :: l, t, u, hp => by
    have hp' := List.pairwise_cons.mp hp
    have hab := hp'.1 b (by simp)
    have hp2 := List.pairwise_cons.mp hp'.2
    have ih := prv_iff (b :: l) t u hp'.2
    have ha : ((a :: b :: l).filter fun v => decide (a < v)) = b :: l := by
      rw [List.filter_cons, if_neg (by simp)]
      exact flt_all hp'.1
    have hu : ∀ u ∈ b :: l, ((a :: b :: l).filter fun v => decide (u < v)) = ((b :: l).filter fun v => decide (u < v)) := fun u hu => by
      have := hp'.1 u hu
      rw [List.filter_cons, if_neg (by simp; omega)]
    have hu2 : ∀ u ∈ b :: l, ((b :: l).filter fun v => decide (u < v)).take 1 ≠ [b] := fun u hu h => by
      have hb : b ∈ ((b :: l).filter fun v => decide (u < v)) := List.mem_of_mem_take (i := 1) (by rw [h]; simp)
      rw [List.mem_filter, decide_eq_true_eq] at hb
      rcases List.mem_cons.mp hu with rfl | hu
      · omega
      · have := hp2.1 u hu
        omega
    unfold prv
    by_cases e : b = t
    · rw [if_pos e]
      subst e
      constructor
      · intro h
        cases h
        exact ⟨by simp, by rw [ha]; rfl⟩
      · rintro ⟨h1, h2⟩
        rcases List.mem_cons.mp h1 with rfl | h1
        · rfl
        · rw [hu u h1] at h2
          exact absurd h2 (hu2 u h1)
    · rw [if_neg e, ih]
      constructor
      · rintro ⟨h1, h2⟩
        exact ⟨by simp [List.mem_cons.mp h1], by rw [hu u h1]; exact h2⟩
      · rintro ⟨h1, h2⟩
        rcases List.mem_cons.mp h1 with rfl | h1
        · rw [ha] at h2
          have h3 : [b] = [t] := h2
          cases h3
          exact absurd rfl e
        · rw [hu u h1] at h2
          exact ⟨h1, h2⟩
theorem nxt_lt {l : List Int} {u t : Int} (h : nxt l u t) : u < t ∧ t ∈ l := by
  have ht : t ∈ (l.filter fun v => decide (u < v)) := List.mem_of_mem_take (i := 1) (by rw [h.2]; simp)
  rw [List.mem_filter, decide_eq_true_eq] at ht
  exact ⟨ht.2, ht.1⟩
end Den

namespace Den
open PySem PySem.Spec PyProof.Rows L2
open Evl (Ex)
/-! ### events, told as they are -/
structure Ev where
  k : Str
  r : Int
  t : Int
  w : Option Int
deriving DecidableEq
def evT : Ev → List D
  | ⟨k, r, t, none⟩ => [.str k, .int r, .int t]
  | ⟨k, r, t, some u⟩ => [.str k, .int r, .int t, .int u]
def evD (e : Ev) : D := .tup (evT e)
def evK : Ev → List Key
  | ⟨k, r, t, none⟩ => [.inr k, .inl r, .inl t]
  | ⟨k, r, t, some u⟩ => [.inr k, .inl r, .inl t, .inl u]
theorem evK_ok : ∀ e : Ev, keysD (evT e) = some (evK e)
  | ⟨_, _, _, none⟩ => rfl
  | ⟨_, _, _, some _⟩ => rfl
theorem evK_inj : ∀ {e e' : Ev}, evK e = evK e' → e = e'
  | ⟨_, _, _, none⟩, ⟨_, _, _, none⟩, h => by cases h; rfl
  | ⟨_, _, _, some _⟩, ⟨_, _, _, some _⟩, h => by cases h; rfl
  | ⟨_, _, _, none⟩, ⟨_, _, _, some _⟩, h => by cases h
  | ⟨_, _, _, some _⟩, ⟨_, _, _, none⟩, h => by cases h
def e3 (k : Str) (t r : Int) : Ev := ⟨k, r, t, none⟩
def e4 (k : Str) (t : Int) (x : Int × Int) : Ev := ⟨k, x.1, t, some x.2⟩
def evs (p : Pb) (m : Nat) (known : List St3) (t : Int) : List Ev :=
  (opL known t).map (e3 "request" t) ++ (opL known t).map (e3 "read" t) ++ (opL known t).map (e3 "reply" t) ++ (hoL p m t.toNat).map (e4 "value" t) ++ (rg 0 m).map (e3 "compute" t) ++ (hoL p m t.toNat).map (e4 "update" t) ++ (clL known t).map (e3 "write" t) ++ (clL known t).map (e3 "ack" t)
def evL (p : Pb) (m : Nat) (wd : Int) (f : Nat) : List Ev := (rg f (p.bs.length - f)).flatMap (evs p m (staysL p wd f))
theorem evs_D {p : Pb} {m : Nat} {known : List St3} {t : Int} : (evs p m known t).map evD = evB p m known t := by
  unfold evs evB
  simp only [List.map_append, List.map_map]
  rfl
theorem evL_D {p : Pb} {m : Nat} {wd : Int} {f : Nat} : (evL p m wd f).map evD = eventsL p m wd f := by
  unfold evL eventsL
  rw [List.map_flatMap]
  congr 1
  funext t
  exact evs_D
inductive IsEv (p : Pb) (m : Nat) (known : List St3) (t : Int) : Ev → Prop
  | rq {r : Int} (h : r ∈ opL known t) : IsEv p m known t ⟨"request", r, t, none⟩
  | rd {r : Int} (h : r ∈ opL known t) : IsEv p m known t ⟨"read", r, t, none⟩
  | rp {r : Int} (h : r ∈ opL known t) : IsEv p m known t ⟨"reply", r, t, none⟩
  | va {r u : Int} (h : (r, u) ∈ hoL p m t.toNat) : IsEv p m known t ⟨"value", r, t, some u⟩
  | cp {r : Int} (h : r ∈ rg 0 m) : IsEv p m known t ⟨"compute", r, t, none⟩
  | up {r u : Int} (h : (r, u) ∈ hoL p m t.toNat) : IsEv p m known t ⟨"update", r, t, some u⟩
  | wr {r : Int} (h : r ∈ clL known t) : IsEv p m known t ⟨"write", r, t, none⟩
  | ak {r : Int} (h : r ∈ clL known t) : IsEv p m known t ⟨"ack", r, t, none⟩
theorem evs_mem {p : Pb} {m : Nat} {known : List St3} {t : Int} {e : Ev} : e ∈ evs p m known t ↔ IsEv p m known t e := by
  unfold evs
  simp only [List.mem_append]
  constructor
  · rintro (((((((h | h) | h) | h) | h) | h) | h) | h)
    all_goals obtain ⟨x, hx, rfl⟩ := List.mem_map.mp h
    · exact .rq hx
    · exact .rd hx
    · exact .rp hx
    · exact .va hx
    · exact .cp hx
    · exact .up hx
    · exact .wr hx
    · exact .ak hx
  · intro h
    cases h with
    | rq h => exact .inl (.inl (.inl (.inl (.inl (.inl (.inl (List.mem_map.mpr ⟨_, h, rfl⟩)))))))
    | rd h => exact .inl (.inl (.inl (.inl (.inl (.inl (.inr (List.mem_map.mpr ⟨_, h, rfl⟩)))))))
    | rp h => exact .inl (.inl (.inl (.inl (.inl (.inr (List.mem_map.mpr ⟨_, h, rfl⟩))))))
    | va h => exact .inl (.inl (.inl (.inl (.inr (List.mem_map.mpr ⟨_, h, rfl⟩)))))
    | cp h => exact .inl (.inl (.inl (.inr (List.mem_map.mpr ⟨_, h, rfl⟩))))
    | up h => exact .inl (.inl (.inr (List.mem_map.mpr ⟨_, h, rfl⟩)))
    | wr h => exact .inl (.inr (List.mem_map.mpr ⟨_, h, rfl⟩))
    | ak h => exact .inr (List.mem_map.mpr ⟨_, h, rfl⟩)
theorem IsEv.t_eq {p : Pb} {m : Nat} {known : List St3} {t : Int} {e : Ev} (h : IsEv p m known t e) : e.t = t := by cases h <;> rfl
theorem evL_mem {p : Pb} {m : Nat} {wd : Int} {f : Nat} {e : Ev} : e ∈ evL p m wd f ↔ e.t ∈ rg f (p.bs.length - f) ∧ IsEv p m (staysL p wd f) e.t e := by
  unfold evL
  rw [List.mem_flatMap]
  constructor
  · rintro ⟨t, h1, h2⟩
    have h3 := evs_mem.mp h2
    rw [h3.t_eq]
    exact ⟨h1, h3⟩
  · rintro ⟨h1, h2⟩
    exact ⟨_, h1, evs_mem.mpr h2⟩
/-! ### each stands once -/
theorem nd_app {A B : List Ev} {ks : List Str} {k : Str} (hA : A.Nodup) (hB : B.Nodup) (ha : ∀ e ∈ A, e.k ∈ ks) (hb : ∀ e ∈ B, e.k = k) (hk : decide (k ∈ ks) = false) : (A ++ B).Nodup ∧ ∀ e ∈ A ++ B, e.k ∈ k :: ks := by
  refine ⟨List.nodup_append.mpr ⟨hA, hB, fun a h1 b h2 e => ?_⟩, fun e he => ?_⟩
  · subst e
    have h3 := ha a h1
    rw [hb a h2] at h3
    exact of_decide_eq_false hk h3
  · rcases List.mem_append.mp he with h | h
    · exact List.mem_cons_of_mem _ (ha e h)
    · rw [hb e h]
      exact List.mem_cons_self
theorem e3_nd {k : Str} {t : Int} {l : List Int} (h : l.Nodup) : (l.map (e3 k t)).Nodup := List.Pairwise.map _ (fun a b hab e => hab (congrArg Ev.r e)) h
theorem e4_nd {k : Str} {t : Int} {l : List (Int × Int)} (h : l.Nodup) : (l.map (e4 k t)).Nodup := List.Pairwise.map _ (fun a b hab e => hab (by
  have h1 : a.1 = b.1 := congrArg Ev.r e
  have h2 : some a.2 = some b.2 := congrArg Ev.w e
  exact Prod.ext h1 (Option.some.inj h2))) h
theorem e3_k {k : Str} {t : Int} {l : List Int} : ∀ e ∈ l.map (e3 k t), e.k = k := fun e h => by
  obtain ⟨x, _, rfl⟩ := List.mem_map.mp h
  rfl
theorem e4_k {k : Str} {t : Int} {l : List (Int × Int)} : ∀ e ∈ l.map (e4 k t), e.k = k := fun e h => by
  obtain ⟨x, _, rfl⟩ := List.mem_map.mp h
  rfl
theorem users_nd {p : Pb} {n r : Int} {t : Nat} : (usersL p n r t).Nodup := (srt_perm _).nodup_iff.mpr (uniq_nd _)
theorem hoL_nd {p : Pb} {m t : Nat} : (hoL p m t).Nodup := by
  unfold hoL
  refine List.pairwise_flatMap.mpr ⟨fun r _ => List.Pairwise.map _ (fun a b h e => h (congrArg Prod.snd e)) users_nd, (rg_pw _ _).imp fun {a b} h x hx y hy e => ?_⟩
  obtain ⟨u, _, rfl⟩ := List.mem_map.mp hx
  obtain ⟨v, _, rfl⟩ := List.mem_map.mp hy
  have : a = b := congrArg Prod.fst e
  omega
theorem evs_nd {p : Pb} {m : Nat} {wd t : Int} {f : Nat} : (evs p m (staysL p wd f) t).Nodup := by
  unfold evs
  have h1 := nd_app (k := "read") (e3_nd (k := "request") (t := t) (opL_nd (p := p) (wd := wd) (t := t) (f := f))) (e3_nd (t := t) (opL_nd (p := p) (wd := wd) (t := t) (f := f))) (ks := ["request"]) (fun e h => by rw [e3_k e h]; exact List.mem_singleton.mpr rfl) e3_k (by decide +kernel)
  have h2 := nd_app (k := "reply") h1.1 (e3_nd (t := t) (opL_nd (p := p) (wd := wd) (t := t) (f := f))) h1.2 e3_k (by decide +kernel)
  have h3 := nd_app (k := "value") h2.1 (e4_nd (t := t) (hoL_nd (p := p) (m := m) (t := t.toNat))) h2.2 e4_k (by decide +kernel)
  have h4 := nd_app (k := "compute") h3.1 (e3_nd (t := t) (lt_nd (rg_pw m 0))) h3.2 e3_k (by decide +kernel)
  have h5 := nd_app (k := "update") h4.1 (e4_nd (t := t) (hoL_nd (p := p) (m := m) (t := t.toNat))) h4.2 e4_k (by decide +kernel)
  have h6 := nd_app (k := "write") h5.1 (e3_nd (t := t) (clL_nd (p := p) (wd := wd) (t := t) (f := f))) h5.2 e3_k (by decide +kernel)
  have h7 := nd_app (k := "ack") h6.1 (e3_nd (t := t) (clL_nd (p := p) (wd := wd) (t := t) (f := f))) h6.2 e3_k (by decide +kernel)
  exact h7.1
theorem evL_nd {p : Pb} {m : Nat} {wd : Int} {f : Nat} : (evL p m wd f).Nodup := by
  unfold evL
  refine List.pairwise_flatMap.mpr ⟨fun t _ => evs_nd, (rg_pw _ _).imp fun {a b} h x hx y hy e => ?_⟩
  have h1 := (evs_mem.mp hx).t_eq
  have h2 := (evs_mem.mp hy).t_eq
  rw [e] at h1
  omega
/-! ### places -/
def idx : List Ev → Int → Ev → Option Int
  | [], _, _ => none
  | x :: l, a, e => if x = e then some a else idx l (a + 1) e
theorem idx_mem' : ∀ (L : List Ev) (a : Int) (e : Ev), (idx L a e).isSome = decide (e ∈ L)
  | [], _, _ => rfl
  | x :: l, a, e => by
    unfold idx
    by_cases h : x = e
    · rw [if_pos h, decide_eq_true (by simp [h])]
      rfl
    · rw [if_neg h, idx_mem' l (a + 1) e]
      congr 1
      simp [Ne.symm h, eq_comm, h]
theorem idx_ge : ∀ (L : List Ev) (a : Int) (e : Ev) (i : Int), idx L a e = some i → a ≤ i
  | [], _, _, _, h => by cases h
  | x :: l, a, e, i, h => by
    unfold idx at h
    by_cases c : x = e
    · rw [if_pos c] at h
      cases h
      omega
    · rw [if_neg c] at h
      have := idx_ge l (a + 1) e i h
      omega
theorem idx_inj : ∀ (L : List Ev) (a : Int) (e e' : Ev) (i : Int), idx L a e = some i → idx L a e' = some i → e = e'
  | [], _, _, _, _, h, _ => by cases h
  | x :: l, a, e, e', i, h, h' => by
    unfold idx at h h'
    by_cases c : x = e
    · by_cases c' : x = e'
      · exact c.symm.trans c'
      · rw [if_pos c] at h
        rw [if_neg c'] at h'
        have := idx_ge l (a + 1) e' i h'
        cases h
        omega
    · by_cases c' : x = e'
      · rw [if_neg c] at h
        rw [if_pos c'] at h'
        have := idx_ge l (a + 1) e i h
        cases h'
        omega
      · rw [if_neg c] at h
        rw [if_neg c'] at h'
        exact idx_inj l (a + 1) e e' i h h'
def posL (N : List Ev) : List Ev → Int → List Int
  | [], _ => []
  | x :: l, a => if x ∈ N then a :: posL N l (a + 1) else posL N l (a + 1)
theorem posL_cons {N l : List Ev} {x : Ev} {a : Int} : posL N (x :: l) a = if x ∈ N then a :: posL N l (a + 1) else posL N l (a + 1) := rfl
theorem posL_ge {N : List Ev} : ∀ (L : List Ev) (a i : Int), i ∈ posL N L a → a ≤ i
  | [], _, _, h => by cases h
  | x :: l, a, i, h => by
    rw [posL_cons] at h
    by_cases c : x ∈ N
    · rw [if_pos c] at h
      rcases List.mem_cons.mp h with rfl | h
      · omega
      · have := posL_ge l (a + 1) i h
        omega
    · rw [if_neg c] at h
      have := posL_ge l (a + 1) i h
      omega
theorem posL_pw {N : List Ev} : ∀ (L : List Ev) (a : Int), (posL N L a).Pairwise (· < ·)
  | [], _ => .nil
  | x :: l, a => by
    rw [posL_cons]
    by_cases c : x ∈ N
    · rw [if_pos c]
      exact List.pairwise_cons.mpr ⟨fun i hi => by have := posL_ge l (a + 1) i hi; omega, posL_pw l (a + 1)⟩
    · rw [if_neg c]
      exact posL_pw l (a + 1)
theorem idx_in : ∀ (L : List Ev) (a : Int) (e : Ev) (i : Int), idx L a e = some i → e ∈ L := fun L a e i h => by
  have := idx_mem' L a e
  rw [h] at this
  exact of_decide_eq_true this.symm
theorem posL_mem {N : List Ev} : ∀ (L : List Ev) (a i : Int), L.Nodup → (i ∈ posL N L a ↔ ∃ e ∈ N, idx L a e = some i)
  | [], a, i, _ => ⟨fun h => (by cases h), fun ⟨_, _, h⟩ => (by cases h)⟩
  | x :: l, a, i, hn => by
    have hn' := List.nodup_cons.mp hn
    have ih := posL_mem (N := N) l (a + 1) i hn'.2
    have key : (∃ e ∈ N, idx (x :: l) a e = some i) ↔ (x ∈ N ∧ i = a) ∨ ∃ e ∈ N, idx l (a + 1) e = some i := by
      constructor
      · rintro ⟨e, h1, h2⟩
        unfold idx at h2
        by_cases c : x = e
        · rw [if_pos c] at h2
          cases h2
          exact .inl ⟨by rw [c]; exact h1, rfl⟩
        · rw [if_neg c] at h2
          exact .inr ⟨e, h1, h2⟩
      · rintro (⟨h1, rfl⟩ | ⟨e, h1, h2⟩)
        · exact ⟨x, h1, by unfold idx; rw [if_pos rfl]⟩
        · refine ⟨e, h1, ?_⟩
          unfold idx
          rw [if_neg (fun c => hn'.1 (by rw [c]; exact idx_in _ _ _ _ h2))]
          exact h2
    rw [key, ← ih]
    rw [posL_cons]
    by_cases c : x ∈ N
    · rw [if_pos c, List.mem_cons]
      simp [c]
    · rw [if_neg c]
      simp [c]
theorem srt_pos {L N : List Ev} (hL : L.Nodup) (hN : N.Nodup) : srt (N.filterMap (idx L 0)) = posL N L 0 := by
  refine (srt_of ((List.perm_ext_iff_of_nodup (lt_nd (posL_pw L 0)) ?_).mpr fun i => ?_) (lt_le (posL_pw L 0))).symm
  · refine List.Pairwise.filterMap _ (fun a a' h b hb b' hb' e => h ?_) hN
    subst e
    exact idx_inj L 0 a a' b hb hb'
  · rw [posL_mem L 0 i hL, List.mem_filterMap]
theorem posL_map {N : List Ev} {G : Int → D} : ∀ (L : List Ev) (a : Int), (∀ j (h : j < L.length), G (a + j) = evD L[j]) → (posL N L a).map G = (L.filter fun e => decide (e ∈ N)).map evD
  | [], _, _ => rfl
  | x :: l, a, h => by
    have ih := posL_map (N := N) (G := G) l (a + 1) fun j hj => by
      have := h (j + 1) (by simpa using hj)
      rw [show a + 1 + (j : Int) = a + ((j + 1 : Nat) : Int) by omega, this]
      rfl
    have h0 := h 0 (by simp)
    have h0' : G a = evD x := by
      have e : a + ((0 : Nat) : Int) = a := by omega
      rw [e] at h0
      exact h0
    rw [posL_cons]
    by_cases c : x ∈ N
    · rw [if_pos c, List.filter_cons, if_pos (decide_eq_true c), List.map_cons, List.map_cons, ih, h0']
    · rw [if_neg c, List.filter_cons, if_neg (by simpa using c), ih]
end Den

namespace Den
open PySem PySem.Spec PyProof.Rows L2
open Evl (Ex)
/-! ### dicts by tuples -/
theorem iota_snoc (a : Int) (n : Nat) : iota a n ++ [.int (a + n)] = iota a (n + 1) := by
  rw [iota_rg, iota_rg, il_app]
  congr 1
  unfold rg
  rw [List.range_succ, List.map_append]
  rfl
theorem look_idx : ∀ (L : List Ev) (a : Int) (e : Ev), lookD (L.map evK) (iota a L.length) (evK e) = (idx L a e).map .int
  | [], _, _ => rfl
  | x :: l, a, e => by
    show (if evK x = evK e then some (D.int a) else lookD (l.map evK) (iota (a + 1) l.length) (evK e)) = (if x = e then some a else idx l (a + 1) e).map .int
    by_cases h : x = e
    · rw [if_pos (by rw [h]), if_pos h]
      rfl
    · rw [if_neg (fun h' => h (evK_inj h')), if_neg h, look_idx l]
abbrev plD (L : List Ev) : D := .dit (L.map evK) (iota 0 L.length)
theorem din_ev {L : List Ev} {e : Ev} : gDin false (evD e) (plD L) = some (.bl (decide (e ∈ L))) := by
  show ((keysD (evT e)).map fun k => lookD (L.map evK) (iota 0 L.length) k).map (fun o : Option D => D.bl (if false then !o.isSome else o.isSome)) = _
  rw [evK_ok]
  show some (D.bl (lookD (L.map evK) (iota 0 L.length) (evK e)).isSome) = _
  rw [look_idx, Option.isSome_map, idx_mem']
theorem ix_ev {L : List Ev} {e : Ev} : ixD (plD L) (evD e) = (idx L 0 e).map .int := by
  show (keysD (evT e)).bind (fun k => lookD (L.map evK) (iota 0 L.length) k) = _
  rw [evK_ok]
  exact look_idx L 0 e
theorem putKs_new {k : Type} [DecidableEq k] {b : k} : ∀ ks : List k, b ∉ ks → putKs ks b = ks ++ [b]
  | [], _ => rfl
  | a :: ks, h => by
    show (if a = b then a :: ks else a :: putKs ks b) = _
    rw [if_neg (fun e => h (by simp [e])), putKs_new ks (fun e => h (by simp [e]))]
    rfl
theorem putDs_new {k : Type} [DecidableEq k] {b : k} {x : D} : ∀ (ks : List k) (ds : List D), ks.length = ds.length → b ∉ ks → putDs ks ds b x = ds ++ [x]
  | [], [], _, _ => rfl
  | [], _ :: _, h, _ => by simp at h
  | _ :: _, [], h, _ => by simp at h
  | a :: ks, d :: ds, hl, h => by
    show (if a = b then x :: ds else d :: putDs ks ds b x) = _
    rw [if_neg (fun e => h (by simp [e])), putDs_new ks ds (by simpa using hl) (fun e => h (by simp [e]))]
    rfl
theorem putKs_old {k : Type} [DecidableEq k] {b : k} : ∀ ks : List k, b ∈ ks → putKs ks b = ks
  | [], h => by cases h
  | a :: ks, h => by
    show (if a = b then a :: ks else a :: putKs ks b) = _
    by_cases e : a = b
    · rw [if_pos e]
    · rw [if_neg e, putKs_old ks ((List.mem_cons.mp h).resolve_left (fun e' => e e'.symm))]
theorem putKs_nd {k : Type} [DecidableEq k] {b : k} {ks : List k} (h : ks.Nodup) : (putKs ks b).Nodup ∧ (putKs ks b).length ≤ ks.length + 1 := by
  by_cases c : b ∈ ks
  · rw [putKs_old ks c]
    exact ⟨h, Nat.le_succ _⟩
  · rw [putKs_new ks c]
    refine ⟨List.nodup_append.mpr ⟨h, List.pairwise_singleton _ _, fun a ha x hx e => c ?_⟩, by simp⟩
    rw [← List.mem_singleton.mp hx, ← e]
    exact ha
theorem lookD_put {k : Type} [DecidableEq k] {b c : k} {x : D} : ∀ (ks : List k) (ds : List D), ks.length = ds.length → lookD (putKs ks b) (putDs ks ds b x) c = if b = c then some x else lookD ks ds c
  | [], [], _ => rfl
  | [], _ :: _, h => by simp at h
  | _ :: _, [], h => by simp at h
  | a :: ks, d :: ds, hl => by
    show lookD (if a = b then a :: ks else a :: putKs ks b) (if a = b then x :: ds else d :: putDs ks ds b x) c = if b = c then some x else (if a = c then some d else lookD ks ds c)
    by_cases e : a = b
    · subst e
      rw [if_pos rfl, if_pos rfl]
      show (if a = c then some x else lookD ks ds c) = _
      by_cases e2 : a = c
      · rw [if_pos e2, if_pos e2]
      · rw [if_neg e2, if_neg e2, if_neg e2]
    · rw [if_neg e, if_neg e]
      show (if a = c then some d else lookD (putKs ks b) (putDs ks ds b x) c) = _
      rw [lookD_put ks ds (by simpa using hl)]
      by_cases e2 : a = c
      · rw [if_pos e2, if_pos e2, if_neg (fun e3 => e (e2.trans e3.symm))]
      · rw [if_neg e2, if_neg e2]
theorem lcL_step {A : Type} {vs : List Nat} {a : XV → Stt → Option Stt} {gt : ME Bool} {body : A → Stt → Option (A × Stt)} {d : D} {ds : List D} {acc acc2 : A} {q q1 q2 q3 : Stt} {z : Option (A × Stt)} (h1 : a (.d d) q = some q1) (h2 : gt q1 = some (.ok true, q2)) (h3 : body acc q2 = some (acc2, q3)) (h4 : lcL vs a gt body ds acc2 (wipeQ q3 vs) = z) : lcL vs a gt body (d :: ds) acc q = z := by
  simp only [lcL, h1, h2, h3, h4]
abbrev I6 (p : Pb) (s : St3) (f j : Nat) (w : List WO) : Stt := ⟨[.hnd j, .dat (pbD p), .dat (stD s), .dat (.int f), .un, .un], w⟩
theorem dct_ev {p : Pb} {s : St3} {f j : Nat} {w : List WO} : ∀ (l pre : List Ev), (pre ++ l).Nodup → (pre ++ l).length ≤ 100000 →
    lcL [4, 5] (gTupD 2 (gsCons (gSet 4) (gsCons (gSet 5) gsNil))) (ret true) (elT (eVar 5) (eVar 4)) (((l.map evD).zipIdx pre.length).map fun x => D.tup [.int x.2, x.1]) (pre.map evK, iota 0 pre.length) (I6 p s f j w) = some (((pre ++ l).map evK, iota 0 (pre ++ l).length), I6 p s f j w)
  | [], pre, _, _ => by
    rw [List.append_nil]
    rfl
  | x :: l, pre, hn, hl => by
    have hpre : pre.Nodup := (List.nodup_append.mp hn).1
    have hx : evK x ∉ pre.map evK := fun h => by
      obtain ⟨y, hy, e⟩ := List.mem_map.mp h
      have := (List.nodup_append.mp hn).2.2 y hy x (by simp)
      exact this (evK_inj e)
    have hlen : pre.length < 100000 := by
      rw [List.length_append, List.length_cons] at hl
      omega
    have hb : (pre.map evK).length < big ∧ (pre.map evK).Nodup := ⟨by rw [List.length_map]; exact Nat.lt_of_lt_of_le hlen (by decide), List.Pairwise.map _ (fun a b h e => h (evK_inj e)) hpre⟩
    have ih := dct_ev (p := p) (s := s) (f := f) (j := j) (w := w) l (pre ++ [x]) (by simpa using hn) (by simpa using hl)
    have h3 : elT (eVar 5) (eVar 4) (pre.map evK, iota 0 pre.length) (⟨[.hnd j, .dat (pbD p), .dat (stD s), .dat (.int f), .dat (.int pre.length), .dat (evD x)], w⟩ : Stt) = some (((pre ++ [x]).map evK, iota 0 (pre.length + 1)), ⟨[.hnd j, .dat (pbD p), .dat (stD s), .dat (.int f), .dat (.int pre.length), .dat (evD x)], w⟩) := by
      show (keysD (evT x)).bind (fun kk => if (pre.map evK).length < big ∧ (pre.map evK).Nodup then some ((putKs (pre.map evK) kk, putDs (pre.map evK) (iota 0 pre.length) kk (.int pre.length)), _) else none) = _
      rw [evK_ok]
      show (if (pre.map evK).length < big ∧ (pre.map evK).Nodup then some ((putKs (pre.map evK) (evK x), putDs (pre.map evK) (iota 0 pre.length) (evK x) (.int pre.length)), (⟨[.hnd j, .dat (pbD p), .dat (stD s), .dat (.int f), .dat (.int pre.length), .dat (evD x)], w⟩ : Stt)) else none) = _
      rw [if_pos hb, putKs_new _ hx, putDs_new _ _ (by rw [List.length_map, iota_len]) hx, List.map_append]
      have := iota_snoc 0 pre.length
      rw [Int.zero_add] at this
      rw [this]
      rfl
    refine lcL_step (q1 := ⟨[.hnd j, .dat (pbD p), .dat (stD s), .dat (.int f), .dat (.int pre.length), .dat (evD x)], w⟩) rfl rfl h3 ?_
    rw [List.append_assoc, List.length_append (as := pre)] at ih
    exact ih
theorem eDcT_ok {va : List Nat} {fi : ME (List D)} {a : XV → Stt → Option Stt} {gt : ME Bool} {fk fv : ME XV} {q q0 q2 : Stt} {ds : List D} {acc : KD} (h : fi q = some (.ok ds, q0)) (k : lcL va a gt (elT fk fv) ds ([], []) (wipeQ q0 va) = some (acc, q2)) (hb : backQ q0 q2 va = q0) : eDcT va fi a gt fk fv q = some (.ok (.d (.dit acc.1 acc.2)), q0) := by
  simp only [eDcT, bnd, h, k, hb]
/-! ### the use before, as a dict -/
theorem sPutT_ok {i : Nat} {fk fv : ME XV} {q q1 q2 : Stt} {v : D} {es : List D} {kk : List Key} {ks : List (List Key)} {ds : List D} (hv : fv q = some (.ok (.d v), q1)) (h1 : q1.sl[i]? = some (.ot ks ds)) (hk : fk q1 = some (.ok (.d (.tup es)), q2)) (h2 : q2.sl[i]? = some (.ot ks ds)) (he : keysD es = some kk) (hb : ks.length < big ∧ ks.Nodup) :
    sPutT i fk fv q = some (.nx { q2 with sl := q2.sl.set i (.ot (putKs ks kk) (putDs ks ds kk v)) }) := by
  have hh : hasT i q1 = true := by
    unfold hasT
    rw [h1]
  simp only [sPutT, sOf, hv, hh, if_true, hk, putStepT, h2, he, Option.bind, if_pos hb]
abbrev E7 (p : Pb) (f : Nat) (ek : List (List Key)) (ex : List D) (x3 x4 x5 x6 : Sl) (w : List WO) : Stt := ⟨[.dat (pbD p), .dat (.int f), .ot ek ex, x3, x4, x5, x6], w⟩
theorem earl_in {p : Pb} {f : Nat} {w : List WO} {r : Int} {x4 : Sl} : ∀ (us : List Int) (ek : List (List Key)) (ex : List D) (x5 x6 : Sl), ek.length = ex.length → ek.Nodup → ek.length + us.length ≤ 1000 → us.Pairwise (· < ·) →
    ∃ ek' ex' x5' x6', loopD (gTupD 2 (gsCons (gSet 5) (gsCons (gSet 6) gsNil))) lb_earlier_uses_0 (zipD (il us) (il us.tail)) (E7 p f ek ex (.dat (.int r)) x4 x5 x6 w) = some (.nx (E7 p f ek' ex' (.dat (.int r)) x4 x5' x6' w)) ∧ ek'.length = ex'.length ∧ ek'.Nodup ∧ ek'.length ≤ ek.length + us.length ∧
      ∀ a t : Int, lookD ek' ex' [.inl a, .inl t] = if a = r ∧ (prv us t).isSome = true then (prv us t).map .int else lookD ek ex [.inl a, .inl t]
  | [], ek, ex, x5, x6, h1, h2, h3, h4 => ⟨ek, ex, x5, x6, rfl, h1, h2, by simp, fun a t => by rw [if_neg (by intro h; cases h.2)]⟩
  | [u], ek, ex, x5, x6, h1, h2, h3, h4 => ⟨ek, ex, x5, x6, rfl, h1, h2, by simp, fun a t => by rw [if_neg (by intro h; cases h.2)]⟩
  | u :: v :: us, ek, ex, x5, x6, h1, h2, h3, h4 => by
    have h3' : ek.length + (us.length + 1 + 1) ≤ 1000 := h3
    have hn := putKs_nd (b := ([.inl r, .inl v] : List Key)) h2
    have hp' := List.pairwise_cons.mp h4
    obtain ⟨ek', ex', x5', x6', e1, e2, e3, e4, e5⟩ := earl_in (p := p) (f := f) (w := w) (r := r) (x4 := x4) (v :: us) (putKs ek [.inl r, .inl v]) (putDs ek ex [.inl r, .inl v] (.int u)) (.dat (.int u)) (.dat (.int v)) (putKs_len ek ex _ _ h1) hn.1 (by
      show _ + (us.length + 1) ≤ 1000
      omega) hp'.2
    refine ⟨ek', ex', x5', x6', loopD_to (d := .tup [.int u, .int v]) (q1 := E7 p f ek ex (.dat (.int r)) x4 (.dat (.int u)) (.dat (.int v)) w) rfl (sPutT_ok (v := .int u) (es := [.int r, .int v]) (kk := [.inl r, .inl v]) rfl rfl (eTup_ok (aCons_ok rfl (aCons_ok rfl rfl)) rfl (show 2 ≤ big by decide)) rfl rfl ⟨Nat.lt_of_lt_of_le (show ek.length < 1001 by omega) (by decide), h2⟩) e1, e2, e3, ?_, fun a t => ?_⟩
    · show ek'.length ≤ ek.length + (us.length + 1 + 1)
      have e4' : ek'.length ≤ (putKs ek [.inl r, .inl v]).length + (us.length + 1) := e4
      omega
    · rw [e5 a t, lookD_put ek ex h1]
      have hpv : prv (u :: v :: us) t = if v = t then some u else prv (v :: us) t := rfl
      rw [hpv]
      by_cases c1 : a = r
      · subst c1
        by_cases c2 : v = t
        · subst c2
          rw [prv_first hp'.2, if_neg (by intro h; cases h.2), if_pos rfl, if_pos rfl, if_pos ⟨rfl, rfl⟩]
          rfl
        · have hk : ([.inl a, .inl v] : List Key) ≠ [.inl a, .inl t] := fun h => c2 (by injection h with _ h; injection h with h _; injection h)
          rw [if_neg c2, if_neg hk]
      · have hk : ([.inl r, .inl v] : List Key) ≠ [.inl a, .inl t] := fun h => c1 (by injection h with h _; injection h with h; exact h.symm)
        rw [if_neg hk, if_neg (fun h : a = r ∧ _ => c1 h.1), if_neg (fun h : a = r ∧ _ => c1 h.1)]
def prvR (p : Pb) (f : Nat) (r t : Int) : Option Int := if r ∈ rg 0 p.rows.length then prv (usesL p f r) t else none
theorem cut_tail {l : List Int} : cutD (il l) (some 1) none = il l.tail := by
  cases l with
  | nil => rfl
  | cons a l =>
    unfold cutD
    have h0 : HT.sIx (il (a :: l)).length 0 (some 1) = 1 := by
      rw [il_len]
      have h1 : (if (1 : Int) < 0 then ((1 : Int) + ((a :: l).length : Nat)).toNat else min (Int.toNat 1) (a :: l).length) = 1 := by
        rw [if_neg (by decide)]
        show min 1 (l.length + 1) = 1
        omega
      exact h1
    rw [h0]
    show ((il (a :: l)).drop 1).take ((il (a :: l)).length - 1) = il l
    rw [il_len]
    show (il l).take (l.length + 1 - 1) = il l
    rw [Nat.add_sub_cancel]
    exact List.take_of_length_le (by rw [il_len]; exact Nat.le_refl _)
theorem earlier_ok {p : Pb} {f : Nat} {w : List WO} (h : okQ p) (hf : f ≤ p.bs.length) : ∃ ek ex, (∀ r t : Int, lookD ek ex [.inl r, .inl t] = (prvR p f r t).map .int) ∧ G_earlier_uses [.d (pbD p), .d (.int f)] w = some (.ok (.d (.dit ek ex)), w) := by
  have hn := h.n
  obtain ⟨q, h1, bs, ek, ex, x3, x4, x5, x6, e1, rfl, e3, e4, e5, e6, e7, e8⟩ := loopD_inv (a := gSet 3) (g := lb_earlier_uses_1)
    (fun es q => ∃ (bs : List Int) (ek : List (List Key)) (ex : List D) (x3 x4 x5 x6 : Sl), es = il bs ∧ q = E7 p f ek ex x3 x4 x5 x6 w ∧ ek.length = ex.length ∧ ek.Nodup ∧ ek.length + 20 * bs.length ≤ 400 ∧ bs.Nodup ∧ (∀ b ∈ bs, b ∈ rg 0 p.rows.length) ∧ ∀ r t : Int, lookD ek ex [.inl r, .inl t] = if r ∈ rg 0 p.rows.length ∧ r ∉ bs then (prv (usesL p f r) t).map .int else none)
    (fun d es q ⟨bs, ek, ex, x3, x4, x5, x6, e1, e2, e3, e4, e5, e6, e7, e8⟩ => by
      cases bs with
      | nil => cases e1
      | cons r bs =>
        obtain ⟨rfl, rfl⟩ := List.cons.inj e1
        subst e2
        have hu := uses_len (f := f) (row := r) h
        have e5' : ek.length + 20 * (bs.length + 1) ≤ 400 := e5
        have e6' := List.nodup_cons.mp e6
        obtain ⟨ek', ex', x5', x6', g1, g2, g3, g4, g5⟩ := earl_in (p := p) (f := f) (w := w) (r := r) (x4 := .dat (tpD (usesL p f r))) (usesL p f r) ek ex x5 x6 e3 e4 (by omega) uses_pw
        refine ⟨_, _, rfl, sSeq_to (q1 := E7 p f ek ex (.dat (.int r)) (.dat (tpD (usesL p f r))) x5 x6 w) (sAsg_ok (by exact eCall_w (aCons_ok rfl (aCons_ok rfl (aCons_ok rfl rfl))) rfl (uses_ok h hf)) rfl) (sFor_ok (q1 := E7 p f ek ex (.dat (.int r)) (.dat (tpD (usesL p f r))) x5 x6 w) (ds := zipD (il (usesL p f r)) (il (usesL p f r).tail)) ?_ (by exact g1)), bs, ek', ex', _, _, _, _, rfl, rfl, g2, g3, by omega, e6'.2, fun b m => e7 b (by simp [m]), fun a t => ?_⟩
        · show some ((Except.ok (zipD (il (usesL p f r)) (cutD (il (usesL p f r)) (some 1) none)) : Except Value (List D)), E7 p f ek ex (.dat (.int r)) (.dat (tpD (usesL p f r))) x5 x6 w) = _
          rw [cut_tail]
        · rw [g5 a t, e8 a t]
          by_cases c : a = r
          · subst c
            have hA : ¬(a ∈ rg 0 p.rows.length ∧ a ∉ a :: bs) := fun h => h.2 (by simp)
            have hB : a ∈ rg 0 p.rows.length ∧ a ∉ bs := ⟨e7 a (by simp), e6'.1⟩
            rw [if_neg hA, if_pos hB]
            cases hv : prv (usesL p f a) t with
            | none => simp
            | some u => simp
          · rw [if_neg (fun h : a = r ∧ _ => c h.1)]
            by_cases c2 : a ∈ rg 0 p.rows.length ∧ a ∉ bs
            · rw [if_pos c2, if_pos ⟨c2.1, fun m => by rcases List.mem_cons.mp m with m | m; exact c m; exact c2.2 m⟩]
            · rw [if_neg c2, if_neg (fun m => c2 ⟨m.1, fun m2 => m.2 (by simp [m2])⟩)])
    (il (rg 0 p.rows.length)) (E7 p f [] [] .un .un .un .un w) ⟨rg 0 p.rows.length, [], [], .un, .un, .un, .un, rfl, rfl, rfl, List.Pairwise.nil, by
      rw [rg_len]
      show 0 + 20 * p.rows.length ≤ 400
      omega, lt_nd (rg_pw _ _), fun b m => m, fun r t => by
      rw [if_neg (fun h => h.2 h.1)]
      rfl⟩
  have hb : bs = [] := by
    cases bs with
    | nil => rfl
    | cons b bs => cases e1
  subst hb
  have hlen : gLen [.tup (il p.rows)] = some (.int p.rows.length) := congrArg (fun k : Nat => some (D.int k)) il_len
  refine ⟨ek, ex, fun r t => ?_, fnG_rt (q := ⟨[.dat (pbD p), .dat (.int f), .dat (.dit ek ex), x3, x4, x5, x6], w⟩) (sSeq_to (q1 := E7 p f [] [] .un .un .un .un w) rfl (sSeq_to (sFor_ok (rng1_len (n := p.rows.length) (eCB1_ok (eIx_d rfl rfl rfl) hlen) (by omega)) (by exact h1)) (sRet_ok rfl)))⟩
  rw [e8 r t]
  unfold prvR
  by_cases c : r ∈ rg 0 p.rows.length
  · rw [if_pos ⟨c, by simp⟩, if_pos c]
  · rw [if_neg (fun h => c h.1), if_neg c]
    rfl
end Den

namespace Den
open PySem PySem.Spec PyProof.Rows L2
open Evl (Ex)
/-! ### objects -/
theorem eFld_ok {C : Addr} {f : Str} {fo : ME XV} {q q1 : Stt} {n : Nat} {ks : List Str} {xs : List XV} {v : XV} (h : fo q = some (.ok (.h n), q1)) (hw : q1.w[n]? = some (.ins C ks xs)) (hl : lkS ks xs f = some v) : eFld C f fo q = some (.ok v, q1) := by
  simp only [eFld, bnd, h, hw, ↓reduceIte, hl, Option.map]
theorem sFldW_ok {C : Addr} {f : Str} {fo fv : ME XV} {sl : List Sl} {w : List WO} {ks ks' : List Str} {xs xs' : List XV} {v : XV} (hv : fv ⟨sl, w ++ [.ins C ks xs]⟩ = some (.ok v, ⟨sl, w ++ [.ins C ks xs]⟩)) (ho : fo ⟨sl, w ++ [.ins C ks xs]⟩ = some (.ok (.h w.length), ⟨sl, w ++ [.ins C ks xs]⟩)) (hl : ks.length < 1000) (e1 : putKS ks f = ks') (e2 : putXS ks xs f v = xs') :
    sFldW C f fo fv ⟨sl, w ++ [.ins C ks xs]⟩ = some (.nx ⟨sl, w ++ [.ins C ks' xs']⟩) := by
  subst e1 e2
  have hw : (w ++ [WO.ins C ks xs])[w.length]? = some (.ins C ks xs) := by simp
  have hs : (w ++ [WO.ins C ks xs]).set w.length (.ins C (putKS ks f) (putXS ks xs f v)) = w ++ [.ins C (putKS ks f) (putXS ks xs f v)] := by simp
  simp only [sFldW, sOf, hv, ho, fldStep, hw, hl, and_self, ↓reduceIte, hs]
theorem eMeth_ok {n : Nat} {C : Addr} {m : Str} {G : Fn} {fo : ME XV} {fa : ME (List XV)} {q q1 : Stt} {j : Nat} {ks : List Str} {xs ys : List XV} {y : XV} {w' : List WO} (ho : fo q = some (.ok (.h j), q)) (hat : q.w[j]? = some (.ins C ks xs)) (hm : m ∉ ks) (ha : fa q = some (.ok ys, q1)) (hn : ys.length + 1 = n) (hg : G (.h j :: ys) q1.w = some (.ok y, w')) :
    eMeth n C m G fo fa q = some (.ok y, { q1 with w := w' }) := by
  have hi : isIns C m (.h j) q = true := by
    show (match q.w[j]? with
    | some (.ins C' ks _) => decide (C' = C ∧ m ∉ ks)
    | _ => false) = true
    rw [hat]
    exact decide_eq_true ⟨rfl, hm⟩
  simp only [eMeth, bnd, ho, hi, ↓reduceIte, ha, metStep, hn, hg]
theorem eMeth_w {n : Nat} {C : Addr} {m : Str} {G : Fn} {fo : ME XV} {fa : ME (List XV)} {q q1 : Stt} {j : Nat} {ks : List Str} {xs ys : List XV} {y : XV} (ho : fo q = some (.ok (.h j), q)) (hat : q.w[j]? = some (.ins C ks xs)) (hm : m ∉ ks) (ha : fa q = some (.ok ys, q1)) (hn : ys.length + 1 = n) (hg : G (.h j :: ys) q1.w = some (.ok y, q1.w)) :
    eMeth n C m G fo fa q = some (.ok y, q1) := eMeth_ok ho hat hm ha hn hg
theorem eNewI_ok {n : Nat} {C : Addr} {G : Fn} {fa : ME (List XV)} {q q1 : Stt} {xs : List XV} {w' : List WO} (ha : fa q = some (.ok xs, q1)) (hn : xs.length + 1 = n) (hg : G (.h q1.w.length :: xs) (q1.w ++ [.ins C [] []]) = some (.ok (.d .non), w')) : eNewI n C G fa q = some (.ok (.h q1.w.length), { q1 with w := w' }) := by
  simp only [eNewI, bnd, ha, newStep, hn, ↓reduceIte, hg]
theorem eLW_ok {fl : ME (List D)} {q q1 : Stt} {ds : List D} (h : fl q = some (.ok ds, q1)) : eLW fl q = some (giveW ds q1) := by
  simp only [eLW, bnd, h]
theorem lTake_ok {f : ME XV} {q : Stt} {sl : List Sl} {w : List WO} {ds : List D} (h : f q = some (giveW ds ⟨sl, w⟩)) : lTake f q = some (.ok ds, ⟨sl, w ++ [.dead]⟩) := by
  have hw : (w ++ [WO.lst (ds.map .d)])[w.length]? = some (.lst (ds.map .d)) := by simp
  have hs : (w ++ [WO.lst (ds.map .d)]).set w.length .dead = w ++ [.dead] := by simp
  simp only [giveW] at h
  simp only [lTake, bnd, h, hw, allD_map, Option.map, hs]
theorem iEn_o {f : ME XV} {q q1 : Stt} {x : XV} {ds : List D} (h : f q = some (.ok x, q1)) (h2 : seqD x = some ds) : iEn f q = some (.ok (enumD ds), q1) := by
  simp only [iEn, bnd, h, h2, Option.map, lft]
/-! ### a course -/
theorem flt_ev {P : D → Bool} {pe : Ev → Bool} (h : ∀ e, P (evD e) = pe e) (L : List Ev) : ((L.map evD).filter P).map (fun d => d) = (L.filter pe).map evD := by
  rw [List.map_id', List.filter_map]
  congr 1
  refine List.filter_congr fun e _ => h e
theorem evD_k : ∀ e : Ev, ixD (evD e) (.int 0) = some (.str e.k)
  | ⟨_, _, _, none⟩ => rfl
  | ⟨_, _, _, some _⟩ => rfl
theorem evD_t : ∀ e : Ev, ixD (evD e) (.int 2) = some (.int e.t)
  | ⟨_, _, _, none⟩ => rfl
  | ⟨_, _, _, some _⟩ => rfl
theorem flat_len {f : Int → List D} {n : Nat} : ∀ ts : List Int, (∀ t ∈ ts, (f t).length ≤ n) → (ts.flatMap f).length ≤ n * ts.length
  | [], _ => Nat.le_refl _
  | t :: ts, h => by
    have h1 := h t (by simp)
    have h2 := flat_len ts fun t m => h t (by simp [m])
    rw [List.flatMap_cons, List.length_append, List.length_cons, Nat.mul_succ]
    omega
theorem ev_len {p : Pb} {m : Nat} {wd : Int} {f : Nat} (h : okQ p) (hm : 0 < m) (hm2 : m ≤ 20) : (eventsL p m wd f).length ≤ 60000 := by
  have hb := h.b
  have := flat_len (f := evB p m (staysL p wd f)) (n := 3000) (rg f (p.bs.length - f)) fun t _ => evB_len h hm hm2 (stays_len h)
  rw [rg_len] at this
  show ((rg f (p.bs.length - f)).flatMap (evB p m (staysL p wd f))).length ≤ 60000
  omega
theorem evL_len {p : Pb} {m : Nat} {wd : Int} {f : Nat} (h : okQ p) (hm : 0 < m) (hm2 : m ≤ 20) : (evL p m wd f).length ≤ 60000 := by
  have := ev_len (wd := wd) (f := f) h hm hm2
  rw [← evL_D, List.length_map] at this
  exact this
def upL (p : Pb) (m : Nat) (wd : Int) (f : Nat) : List Ev := (evL p m wd f).filter fun e => decide (e.k = "update")
abbrev cKs : List Str := ["setup", "row_count", "listed", "places", "updates", "earlier"]
abbrev crs (C : Cl) (p : Pb) (m : Nat) (wd ld : Int) (f : Nat) (ek : List (List Key)) (ex : List D) : WO := .ins C.Course_ cKs [.d (stD ((m : Int), wd, ld)), .d (.int p.rows.length), .d (.tup (eventsL p m wd f)), .d (plD (evL p m wd f)), .d (.lst ((upL p m wd f).map evD)), .d (.dit ek ex)]
def pUp (d : D) : Bool := match ixD d (.int 0) with
  | some (.str k) => decide (k = "update")
  | _ => false
theorem pUp_ev (e : Ev) : pUp (evD e) = decide (e.k = "update") := by
  unfold pUp
  rw [evD_k]
section
variable {C : Cl} {p : Pb} {m : Nat} {wd ld : Int} {f : Nat} {w : List WO} {ek : List (List Key)} {ex : List D}
theorem init_course (h : okQ p) (hm : 0 < m) (hm2 : m ≤ 20) (hf : f ≤ p.bs.length) : ∃ ek ex, (∀ r t : Int, lookD ek ex [.inl r, .inl t] = (prvR p f r t).map .int) ∧
    G_Course__init C [.h w.length, .d (pbD p), .d (stD ((m : Int), wd, ld)), .d (.int f)] (w ++ [.ins C.Course_ [] []]) = some (.ok (.d .non), w ++ [crs C p m wd ld f ek ex]) := by
  obtain ⟨ek, ex, h1, h2⟩ := earlier_ok (w := w ++ [.ins C.Course_ ["setup", "row_count", "listed", "places", "updates"] [.d (stD ((m : Int), wd, ld)), .d (.int p.rows.length), .d (.tup (eventsL p m wd f)), .d (plD (evL p m wd f)), .d (.lst ((upL p m wd f).map evD))]]) h hf
  refine ⟨ek, ex, h1, ?_⟩
  have hlen : gLen [.tup (il p.rows)] = some (.int p.rows.length) := congrArg (fun k : Nat => some (D.int k)) il_len
  have hel := ev_len (wd := wd) (f := f) h hm hm2
  have hevl := evL_len (wd := wd) (f := f) h hm hm2
  have at3 : ∀ ks xs, (w ++ [WO.ins C.Course_ ks xs])[w.length]? = some (.ins C.Course_ ks xs) := fun ks xs => by simp
  have hd := dct_ev (p := p) (s := ((m : Int), wd, ld)) (f := f) (j := w.length) (w := w ++ [.ins C.Course_ ["setup", "row_count", "listed"] [.d (stD ((m : Int), wd, ld)), .d (.int p.rows.length), .d (.tup (eventsL p m wd f))]]) (evL p m wd f) [] (by simpa using evL_nd) (by simpa using (show (evL p m wd f).length ≤ 100000 by omega))
  rw [evL_D] at hd
  have hu : lLc [5] (iOf (eFld C.Course_ "listed" (eVar 0))) (gSet 5) (tOf (eOp gEq (eIx (eVar 5) (eC (.int 0))) (eC (.str "update")))) (eVar 5) (I6 p ((m : Int), wd, ld) f w.length (w ++ [.ins C.Course_ ["setup", "row_count", "listed", "places"] [.d (stD ((m : Int), wd, ld)), .d (.int p.rows.length), .d (.tup (eventsL p m wd f)), .d (plD (evL p m wd f))]])) = some (.ok (((eventsL p m wd f).filter pUp).map fun d => d), I6 p ((m : Int), wd, ld) f w.length (w ++ [.ins C.Course_ ["setup", "row_count", "listed", "places"] [.d (stD ((m : Int), wd, ld)), .d (.int p.rows.length), .d (.tup (eventsL p m wd f)), .d (plD (evL p m wd f))]])) := by
    refine lLc_flt pUp (fun d => d) (iOf_ok (eFld_ok rfl (at3 _ _) rfl) rfl) (Nat.le_trans hel (by decide)) rfl fun d hd => ?_
    rw [← evL_D] at hd
    obtain ⟨e, _, rfl⟩ := List.mem_map.mp hd
    exact ⟨_, rfl, rfl, tOf_ok (eOp_ok (eIx_d rfl rfl (evD_k e)) rfl (by rw [pUp_ev]; rfl)), fun _ => rfl⟩
  rw [← evL_D, flt_ev pUp_ev, evL_D] at hu
  exact fnG_nx (q := I6 p ((m : Int), wd, ld) f w.length (w ++ [crs C p m wd ld f ek ex]))
    (sSeq_to (sFldW_ok (ks' := ["setup"]) (xs' := [.d (stD ((m : Int), wd, ld))]) rfl rfl (by decide) rfl rfl)
    (sSeq_to (sFldW_ok (ks' := ["setup", "row_count"]) (xs' := [.d (stD ((m : Int), wd, ld)), .d (.int p.rows.length)]) (eCB1_ok (eIx_d rfl rfl rfl) hlen) rfl (by decide) rfl rfl)
    (sSeq_to (sFldW_ok (ks' := ["setup", "row_count", "listed"]) (xs' := [.d (stD ((m : Int), wd, ld)), .d (.int p.rows.length), .d (.tup (eventsL p m wd f))]) (eCall_w (aCons_ok rfl (aCons_ok rfl (aCons_ok rfl rfl))) rfl (events_ok h hm hm2 hf)) rfl (by decide) rfl rfl)
    (sSeq_to (sFldW_ok (ks' := ["setup", "row_count", "listed", "places"]) (xs' := [.d (stD ((m : Int), wd, ld)), .d (.int p.rows.length), .d (.tup (eventsL p m wd f)), .d (plD (evL p m wd f))]) (eDcT_ok (ds := enumD (eventsL p m wd f)) (acc := ((evL p m wd f).map evK, iota 0 (evL p m wd f).length)) (iEn_o (eFld_ok rfl (at3 _ _) rfl) rfl) (by exact hd) rfl) rfl (by decide) rfl rfl)
    (sSeq_to (sFldW_ok (ks' := ["setup", "row_count", "listed", "places", "updates"]) (xs' := [.d (stD ((m : Int), wd, ld)), .d (.int p.rows.length), .d (.tup (eventsL p m wd f)), .d (plD (evL p m wd f)), .d (.lst ((upL p m wd f).map evD))]) (eL_ok hu) rfl (by decide) rfl rfl)
    (sFldW_ok (eCall_w (aCons_ok rfl (aCons_ok rfl rfl)) rfl h2) rfl (by decide) rfl rfl))))))
end
end Den

namespace Den
open PySem PySem.Spec PyProof.Rows L2
open Evl (Ex)
/-! ### the causes that are named -/
theorem nk_has : ("has" : Str) ∉ cKs := by decide +kernel
theorem nk_cof : ("causes_of" : Str) ∉ cKs := by decide +kernel
theorem nk_named : ("_named_causes" : Str) ∉ cKs := by decide +kernel
theorem nk_brq : ("_before_request" : Str) ∉ cKs := by decide +kernel
theorem nk_bva : ("_before_value" : Str) ∉ cKs := by decide +kernel
theorem nk_bcp : ("_before_compute" : Str) ∉ cKs := by decide +kernel
theorem nk_updrow : ("_updates_of_row" : Str) ∉ cKs := by decide +kernel
theorem nk_until : ("_updates_until" : Str) ∉ cKs := by decide +kernel
def untL (p : Pb) (m : Nat) (wd : Int) (f : Nat) (b : Int) : List Ev := (upL p m wd f).filter fun e => decide (e.t ≤ b)
def updR (m : Nat) (r b : Int) : List Ev := (rg 0 m).map fun tr => ⟨"update", r, b, some tr⟩
def ackL (p : Pb) (f : Nat) (r t : Int) : List Ev := match prvR p f r t with
  | some u => [⟨"ack", r, u, none⟩]
  | none => []
def rqL (p : Pb) (m : Nat) (wd : Int) (f : Nat) (r t : Int) : List Ev := untL p m wd f (t - wd) ++ ackL p f r t
def vaL (p : Pb) (m : Nat) (wd : Int) (f : Nat) (r t : Int) : List Ev := match prvR p f r t with
  | some u => if t ≤ u + wd then updR m r u else [⟨"reply", r, t, none⟩]
  | none => [⟨"reply", r, t, none⟩]
def cpL (p : Pb) (m : Nat) (wd ld : Int) (f : Nat) (r t : Int) : List Ev := untL p m wd f (t - ld) ++ [⟨"compute", r, t - 1, none⟩] ++ (rg 0 p.rows.length).map fun row => ⟨"value", row, t, some r⟩
def bfK (k : Str) : Str := if k = "read" then "request" else if k = "reply" then "read" else "write"
def nmd (p : Pb) (m : Nat) (wd ld : Int) (f : Nat) (e : Ev) : List Ev :=
  if e.k = "request" then rqL p m wd f e.r e.t else if e.k = "value" then vaL p m wd f e.r e.t else if e.k = "compute" then cpL p m wd ld f e.r e.t
  else if e.k = "update" then [⟨"compute", e.w.getD 0, e.t, none⟩] else if e.k = "write" then updR m e.r e.t else [⟨bfK e.k, e.r, e.t, none⟩]
def pUnt (b : Int) (d : D) : Bool := match ixD d (.int 2) with
  | some (.int t) => decide (t ≤ b)
  | _ => false
theorem pUnt_ev {b : Int} (e : Ev) : pUnt b (evD e) = decide (e.t ≤ b) := by
  unfold pUnt
  rw [evD_t]
def fUpd (r b : Int) : D → D
  | .int tr => evD ⟨"update", r, b, some tr⟩
  | d => d
def fVal (t r : Int) : D → D
  | .int row => evD ⟨"value", row, t, some r⟩
  | d => d
theorem il_map {g : D → D} {h : Int → Ev} (e : ∀ i, g (.int i) = evD (h i)) : ∀ l : List Int, (il l).map g = (l.map h).map evD
  | [] => rfl
  | x :: l => by
    have ih := il_map e l
    show g (.int x) :: (il l).map g = evD (h x) :: (l.map h).map evD
    rw [ih, e]
theorem upL_len {p : Pb} {m : Nat} {wd : Int} {f : Nat} (h : okQ p) (hm : 0 < m) (hm2 : m ≤ 20) : (upL p m wd f).length ≤ 60000 :=
  Nat.le_trans (List.length_filter_le _ _) (evL_len h hm hm2)
section
variable {C : Cl} {p : Pb} {m : Nat} {wd ld : Int} {f j : Nat} {w : List WO} {ek : List (List Key)} {ex : List D}
theorem until_ok {b : Int} (h : okQ p) (hm : 0 < m) (hm2 : m ≤ 20) (hj : w[j]? = some (crs C p m wd ld f ek ex)) : G_Course_updates_until C [.h j, .d (.int b)] w = some (.ok (.h w.length), w ++ [WO.lst (((untL p m wd f b).map evD).map .d)]) := by
  have hc : lLc [2] (iOf (eFld C.Course_ "updates" (eVar 0))) (gSet 2) (tOf (eOp (gC fun i j => decide (i ≤ j)) (eIx (eVar 2) (eC (.int 2))) (eVar 1))) (eVar 2) ⟨[.hnd j, .dat (.int b), .un], w⟩ = some (.ok ((((upL p m wd f).map evD).filter (pUnt b)).map fun d => d), ⟨[.hnd j, .dat (.int b), .un], w⟩) := by
    refine lLc_flt (pUnt b) (fun d => d) (iOf_ok (eFld_ok rfl hj rfl) rfl) (by rw [List.length_map]; exact Nat.le_trans (upL_len h hm hm2) (by decide)) rfl fun d hd => ?_
    obtain ⟨e, _, rfl⟩ := List.mem_map.mp hd
    exact ⟨_, rfl, rfl, tOf_ok (eOp_ok (eIx_d rfl rfl (evD_t e)) rfl (by rw [pUnt_ev]; rfl)), fun _ => rfl⟩
  rw [flt_ev pUnt_ev] at hc
  exact fnG_rt (n := 3) (g := g_Course_updates_until C) (xs := [.h j, .d (.int b)]) (w := w) (q := ⟨[.hnd j, .dat (.int b), .un], w ++ [WO.lst (((untL p m wd f b).map evD).map .d)]⟩) (sRet_ok (eLW_ok hc))
theorem take_until {b : Int} {sl : List Sl} {fa : ME (List XV)} (h : okQ p) (hm : 0 < m) (hm2 : m ≤ 20) (hj : w[j]? = some (crs C p m wd ld f ek ex)) (h0 : eVar 0 ⟨sl, w⟩ = some (.ok (.h j), ⟨sl, w⟩)) (ha : fa ⟨sl, w⟩ = some (.ok [.d (.int b)], ⟨sl, w⟩)) :
    lTake (eMeth 2 C.Course_ "_updates_until" (G_Course_updates_until C) (eVar 0) fa) ⟨sl, w⟩ = some (.ok ((untL p m wd f b).map evD), ⟨sl, w ++ [WO.dead]⟩) :=
  lTake_ok (sl := sl) (w := w) (eMeth_ok h0 hj nk_until ha rfl (until_ok h hm hm2 hj))
theorem updrow_ok {r b : Int} (hm2 : m ≤ 20) (hj : w[j]? = some (crs C p m wd ld f ek ex)) : G_Course_updates_of_row C [.h j, .d (.int r), .d (.int b)] w = some (.ok (.d (.lst ((updR m r b).map evD))), w) := by
  have hc : lLc [4] (bnd (aCons (eVar 3) aNil) fun xs => lft (rng1 xs)) (gSet 4) (ret true) (eTup (aCons (eC (.str "update")) (aCons (eVar 1) (aCons (eVar 2) (aCons (eVar 4) aNil))))) ⟨[.hnd j, .dat (.int r), .dat (.int b), .dat (.int m), .un], w⟩ = some (.ok ((il (rg 0 m)).map (fUpd r b)), ⟨[.hnd j, .dat (.int r), .dat (.int b), .dat (.int m), .un], w⟩) := by
    refine lLc_pure (fUpd r b) (rng1_len (n := m) rfl (by omega)) (by rw [il_len, rg_len]; exact Nat.le_trans (show m ≤ 100000 by omega) (by decide)) rfl fun d hd => ?_
    obtain ⟨tr, _, rfl⟩ := List.mem_map.mp hd
    exact ⟨_, rfl, rfl, eTup_ok (aCons_ok rfl (aCons_ok rfl (aCons_ok rfl (aCons_ok rfl rfl)))) rfl (show 4 ≤ big by decide)⟩
  rw [il_map (h := fun tr => ⟨"update", r, b, some tr⟩) (fun i => rfl)] at hc
  exact fnG_rt (q := ⟨[.hnd j, .dat (.int r), .dat (.int b), .dat (.int m), .un], w⟩) (sSeq_to (sAsg_ok (eIx_d (eFld_ok rfl hj rfl) rfl rfl) rfl) (sRet_ok (eL_ok hc)))
theorem din_er {r t : Int} (he : ∀ r t : Int, lookD ek ex [.inl r, .inl t] = (prvR p f r t).map .int) : gDin false (.tup [.int r, .int t]) (.dit ek ex) = some (.bl (prvR p f r t).isSome) := by
  show some (D.bl (lookD ek ex [.inl r, .inl t]).isSome) = _
  rw [he, Option.isSome_map]
theorem at_dead (hj : w[j]? = some (crs C p m wd ld f ek ex)) : (w ++ [WO.dead])[j]? = some (crs C p m wd ld f ek ex) := by
  have h1 := (List.getElem?_eq_some_iff.mp hj).1
  rw [List.getElem?_append_left h1]
  exact hj
theorem before_rq {r t : Int} (h : okQ p) (hm : 0 < m) (hm2 : m ≤ 20) (he : ∀ r t : Int, lookD ek ex [.inl r, .inl t] = (prvR p f r t).map .int) (hj : w[j]? = some (crs C p m wd ld f ek ex)) :
    G_Course_before_request C [.h j, .d (.int r), .d (.int t)] w = some (.ok (.d (.lst ((rqL p m wd f r t).map evD))), w ++ [WO.dead]) := by
  have hj2 := at_dead hj
  have hl := upL_len (wd := wd) (f := f) h hm hm2
  have hl2 : ((untL p m wd f (t - wd)).map evD).length < 100000 := by
    rw [List.length_map]
    exact Nat.lt_of_le_of_lt (List.length_filter_le _ _) (by omega)
  have h1 : sAsg (eIx (eFld C.Course_ "setup" (eVar 0)) (eC (.int 1))) (gSet 3) (fnQ 5 [.h j, .d (.int r), .d (.int t)] w) = some (.nx ⟨[.hnd j, .dat (.int r), .dat (.int t), .dat (.int wd), .un], w⟩) := sAsg_ok (eIx_d (eFld_ok rfl hj rfl) rfl rfl) rfl
  have h2 := sSetL_ok (i := 4) (take_until (sl := [.hnd j, .dat (.int r), .dat (.int t), .dat (.int wd), .un]) (b := t - wd) (fa := aCons (eOp gMinus (eVar 2) (eVar 3)) aNil) h hm hm2 hj rfl (aCons_ok (eOp_ok rfl rfl rfl) rfl)) (show 4 < 5 by decide)
  unfold rqL ackL
  cases c : prvR p f r t with
  | none =>
    have hdn : gDin false (.tup [.int r, .int t]) (.dit ek ex) = some (.bl false) := by rw [din_er he, c]; rfl
    refine fnG_rt (q := ⟨[.hnd j, .dat (.int r), .dat (.int t), .dat (.int wd), .dat (.lst ((untL p m wd f (t - wd)).map evD))], w ++ [WO.dead]⟩) (sSeq_to h1 (sSeq_to h2 (sSeq_to (sIf_f (tOf_ok (eOp_ok (x := .tup [.int r, .int t]) (y := .dit ek ex) (eTup_ok (aCons_ok rfl (aCons_ok rfl rfl)) rfl (show 2 ≤ big by decide)) (eFld_ok rfl hj2 rfl) hdn)) rfl) (sRet_ok ?_))))
    rw [List.append_nil]
    rfl
  | some u =>
    have hdn : gDin false (.tup [.int r, .int t]) (.dit ek ex) = some (.bl true) := by rw [din_er he, c]; rfl
    have hix : ixD (.dit ek ex) (.tup [.int r, .int t]) = some (.int u) := by
      show lookD ek ex [.inl r, .inl t] = _
      rw [he, c]
      rfl
    refine fnG_rt (q := ⟨[.hnd j, .dat (.int r), .dat (.int t), .dat (.int wd), .dat (.lst ((untL p m wd f (t - wd)).map evD ++ [evD ⟨"ack", r, u, none⟩]))], w ++ [WO.dead]⟩) (sSeq_to h1 (sSeq_to h2 (sSeq_to (sIf_t (tOf_ok (eOp_ok (x := .tup [.int r, .int t]) (y := .dit ek ex) (eTup_ok (aCons_ok rfl (aCons_ok rfl rfl)) rfl (show 2 ≤ big by decide)) (eFld_ok rfl hj2 rfl) hdn))
      (sDrop_ok (eM1V_ok (y := .non) (x := evD ⟨"ack", r, u, none⟩) (q1 := ⟨[.hnd j, .dat (.int r), .dat (.int t), .dat (.int wd), .ol ((untL p m wd f (t - wd)).map evD)], w ++ [WO.dead]⟩) rfl (eTup_ok (aCons_ok rfl (aCons_ok rfl (aCons_ok (eIx_d (x := .dit ek ex) (eFld_ok rfl hj2 rfl) (eTup_ok (aCons_ok rfl (aCons_ok rfl rfl)) rfl (show 2 ≤ big by decide)) hix) rfl))) rfl (show 3 ≤ big by decide)) rfl (gApp_ok (Nat.lt_of_lt_of_le hl2 (by decide)))))) (sRet_ok ?_))))
    rw [List.map_append]
    rfl
theorem eGet1_ok {f1 f2 : ME XV} {q q1 q2 : Stt} {ks : List (List Key)} {ds es : List D} {kk : List Key} (h1 : f1 q = some (.ok (.d (.dit ks ds)), q1)) (h2 : f2 q1 = some (.ok (.d (.tup es)), q2)) (h3 : keysD es = some kk) : eGet1 f1 f2 q = some (.ok (.d ((lookD ks ds kk).getD .non)), q2) := by
  simp only [eGet1, bnd, h1, isDicX, isDic, ↓reduceIte, h2, getStep, dgetD, h3, Option.map]
theorem before_va {r t : Int} (hm2 : m ≤ 20) (he : ∀ r t : Int, lookD ek ex [.inl r, .inl t] = (prvR p f r t).map .int) (hj : w[j]? = some (crs C p m wd ld f ek ex)) :
    G_Course_before_value C [.h j, .d (.int r), .d (.int t)] w = some (.ok (.d (.lst ((vaL p m wd f r t).map evD))), w) := by
  have h1 : sAsg (eIx (eFld C.Course_ "setup" (eVar 0)) (eC (.int 1))) (gSet 3) (fnQ 5 [.h j, .d (.int r), .d (.int t)] w) = some (.nx ⟨[.hnd j, .dat (.int r), .dat (.int t), .dat (.int wd), .un], w⟩) := sAsg_ok (eIx_d (eFld_ok rfl hj rfl) rfl rfl) rfl
  have h2 : sAsg (eGet1 (eFld C.Course_ "earlier" (eVar 0)) (eTup (aCons (eVar 1) (aCons (eVar 2) aNil)))) (gSet 4) ⟨[.hnd j, .dat (.int r), .dat (.int t), .dat (.int wd), .un], w⟩ = some (.nx ⟨[.hnd j, .dat (.int r), .dat (.int t), .dat (.int wd), .dat (optD (prvR p f r t))], w⟩) := by
    refine sAsg_ok (eGet1_ok (ks := ek) (ds := ex) (es := [.int r, .int t]) (kk := [.inl r, .inl t]) (eFld_ok rfl hj rfl) (eTup_ok (aCons_ok rfl (aCons_ok rfl rfl)) rfl (show 2 ≤ big by decide)) rfl) ?_
    rw [he]
    cases prvR p f r t <;> rfl
  have h4 : ∀ x4, sRet (eL (lLst (aCons (eTup (aCons (eC (.str "reply")) (aCons (eVar 1) (aCons (eVar 2) aNil)))) aNil))) ⟨[.hnd j, .dat (.int r), .dat (.int t), .dat (.int wd), x4], w⟩ = some (.rt (.d (.lst ([(⟨"reply", r, t, none⟩ : Ev)].map evD))) ⟨[.hnd j, .dat (.int r), .dat (.int t), .dat (.int wd), x4], w⟩) := fun x4 =>
    sRet_ok (eL_ok (lLst_ok (aCons_ok (eTup_ok (aCons_ok rfl (aCons_ok rfl (aCons_ok rfl rfl))) rfl (show 3 ≤ big by decide)) rfl) rfl (show 1 ≤ big by decide)))
  cases c : prvR p f r t with
  | none =>
    have e : vaL p m wd f r t = [⟨"reply", r, t, none⟩] := by
      unfold vaL
      rw [c]
    rw [c] at h2
    rw [e]
    exact fnG_rt (q := ⟨[.hnd j, .dat (.int r), .dat (.int t), .dat (.int wd), .dat .non], w⟩) (sSeq_to h1 (sSeq_to h2 (sSeq_to (sIf_f (tAnd_f (tOf_ok (eOp_ok rfl rfl rfl))) rfl) (h4 _))))
  | some u =>
    rw [c] at h2
    change sAsg _ _ _ = some (.nx ⟨[.hnd j, .dat (.int r), .dat (.int t), .dat (.int wd), .dat (.int u)], w⟩) at h2
    by_cases c2 : t ≤ u + wd
    · have e : vaL p m wd f r t = updR m r u := by
        unfold vaL
        rw [c]
        exact if_pos c2
      rw [e]
      refine fnG_rt (q := ⟨[.hnd j, .dat (.int r), .dat (.int t), .dat (.int wd), .dat (.int u)], w⟩) (sSeq_to h1 (sSeq_to h2 (sSeq_rt (sIf_t (tAnd_t (tOf_ok (eOp_ok rfl rfl rfl)) (tOf_ok (eOp_ok rfl (eOp_ok rfl rfl rfl) (show gC _ (.int t) (.int (u + wd)) = some (.bl true) from ?_)))) (sRet_ok (eMeth_w rfl hj nk_updrow (aCons_ok rfl (aCons_ok rfl rfl)) rfl (updrow_ok hm2 hj)))))))
      show some (D.bl (decide (t ≤ u + wd))) = _
      rw [decide_eq_true c2]
    · have e : vaL p m wd f r t = [⟨"reply", r, t, none⟩] := by
        unfold vaL
        rw [c]
        exact if_neg c2
      rw [e]
      refine fnG_rt (q := ⟨[.hnd j, .dat (.int r), .dat (.int t), .dat (.int wd), .dat (.int u)], w⟩) (sSeq_to h1 (sSeq_to h2 (sSeq_to (sIf_f (tAnd_t (tOf_ok (eOp_ok rfl rfl rfl)) (tOf_ok (eOp_ok rfl (eOp_ok rfl rfl rfl) (show gC _ (.int t) (.int (u + wd)) = some (.bl false) from ?_)))) rfl) (h4 _))))
      show some (D.bl (decide (t ≤ u + wd))) = _
      rw [decide_eq_false c2]
theorem before_cp {r t : Int} (h : okQ p) (hm : 0 < m) (hm2 : m ≤ 20) (hj : w[j]? = some (crs C p m wd ld f ek ex)) :
    G_Course_before_compute C [.h j, .d (.int r), .d (.int t)] w = some (.ok (.d (.lst ((cpL p m wd ld f r t).map evD))), w ++ [WO.dead]) := by
  have hj2 := at_dead hj
  have hn := h.n
  have hl := upL_len (wd := wd) (f := f) h hm hm2
  have hl2 : ((untL p m wd f (t - ld)).map evD).length ≤ 60000 := by
    rw [List.length_map]
    exact Nat.le_trans (List.length_filter_le _ _) hl
  have h1 : sAsg (eIx (eFld C.Course_ "setup" (eVar 0)) (eC (.int 2))) (gSet 3) (fnQ 6 [.h j, .d (.int r), .d (.int t)] w) = some (.nx ⟨[.hnd j, .dat (.int r), .dat (.int t), .dat (.int ld), .un, .un], w⟩) := sAsg_ok (eIx_d (eFld_ok rfl hj rfl) rfl rfl) rfl
  have h2 := sSetL_ok (i := 4) (take_until (sl := [.hnd j, .dat (.int r), .dat (.int t), .dat (.int ld), .un, .un]) (b := t - ld) (fa := aCons (eOp gMinus (eVar 2) (eVar 3)) aNil) h hm hm2 hj rfl (aCons_ok (eOp_ok rfl rfl rfl) rfl)) (show 4 < 6 by decide)
  have hc : lLc [5] (bnd (aCons (eFld C.Course_ "row_count" (eVar 0)) aNil) fun xs => lft (rng1 xs)) (gSet 5) (ret true) (eTup (aCons (eC (.str "value")) (aCons (eVar 5) (aCons (eVar 2) (aCons (eVar 1) aNil))))) ⟨[.hnd j, .dat (.int r), .dat (.int t), .dat (.int ld), .ol ((untL p m wd f (t - ld)).map evD ++ [evD ⟨"compute", r, t - 1, none⟩]), .un], w ++ [WO.dead]⟩ = some (.ok ((il (rg 0 p.rows.length)).map (fVal t r)), ⟨[.hnd j, .dat (.int r), .dat (.int t), .dat (.int ld), .ol ((untL p m wd f (t - ld)).map evD ++ [evD ⟨"compute", r, t - 1, none⟩]), .un], w ++ [WO.dead]⟩) := by
    refine lLc_pure (fVal t r) (rng1_len (n := p.rows.length) (eFld_ok rfl hj2 rfl) (by omega)) (by rw [il_len, rg_len]; exact Nat.le_trans (show p.rows.length ≤ 100000 by omega) (by decide)) rfl fun d hd => ?_
    obtain ⟨tr, _, rfl⟩ := List.mem_map.mp hd
    exact ⟨_, rfl, rfl, eTup_ok (aCons_ok rfl (aCons_ok rfl (aCons_ok rfl (aCons_ok rfl rfl)))) rfl (show 4 ≤ big by decide)⟩
  rw [il_map (h := fun row => ⟨"value", row, t, some r⟩) (fun i => rfl)] at hc
  refine fnG_rt (q := ⟨[.hnd j, .dat (.int r), .dat (.int t), .dat (.int ld), .dat (.lst ((untL p m wd f (t - ld)).map evD ++ [evD ⟨"compute", r, t - 1, none⟩] ++ ((rg 0 p.rows.length).map fun row => (⟨"value", row, t, some r⟩ : Ev)).map evD)), .un], w ++ [WO.dead]⟩) (sSeq_to h1 (sSeq_to h2 (sSeq_to
    (sDrop_ok (eM1V_ok (y := .non) (x := evD ⟨"compute", r, t - 1, none⟩) (q1 := ⟨[.hnd j, .dat (.int r), .dat (.int t), .dat (.int ld), .ol ((untL p m wd f (t - ld)).map evD), .un], w ++ [WO.dead]⟩) rfl (eTup_ok (aCons_ok rfl (aCons_ok rfl (aCons_ok (eOp_ok rfl rfl rfl) rfl))) rfl (show 3 ≤ big by decide)) rfl (gApp_ok (Nat.lt_of_lt_of_le (show _ < 100000 by omega) (by decide)))))
    (sSeq_to (sDrop_ok (eM1V_ok (y := .non) rfl (eL_ok hc) rfl (gExt_ok ?_))) (sRet_ok ?_)))))
  · refine Nat.le_trans (m := 100000) ?_ (by decide)
    simp only [List.length_map] at hl2
    simp only [List.length_append, List.length_map, rg_len, List.length_cons, List.length_nil]
    omega
  · unfold cpL
    rw [List.map_append, List.map_append]
    rfl
end
end Den

namespace Den
open PySem PySem.Spec PyProof.Rows L2
open Evl (Ex)
/-! ### the causes of an event -/
theorem like_ok (e : Ev) (w : List WO) : G_is_like_an_event [.d (evD e)] w = some (.ok (.d (.bl true)), w) := by
  obtain ⟨k, r, t, u⟩ := e
  cases u <;> rfl
theorem posL_lt {N : List Ev} : ∀ (L : List Ev) (a i : Int), i ∈ posL N L a → i < a + L.length
  | [], _, _, h => by cases h
  | x :: l, a, i, h => by
    rw [posL_cons] at h
    rw [List.length_cons]
    by_cases c : x ∈ N
    · rw [if_pos c] at h
      rcases List.mem_cons.mp h with rfl | h
      · omega
      · have := posL_lt l (a + 1) i h
        omega
    · rw [if_neg c] at h
      have := posL_lt l (a + 1) i h
      omega
def pIn (L : List Ev) (d : D) : Bool := match gDin false d (plD L) with
  | some (.bl b) => b
  | _ => false
def fPl (L : List Ev) (d : D) : D := (ixD (plD L) d).getD .non
def fAt (ds : List D) (d : D) : D := (ixD (.tup ds) d).getD .non
theorem pIn_ev {L : List Ev} (e : Ev) : pIn L (evD e) = decide (e ∈ L) := by
  unfold pIn
  rw [din_ev]
theorem in_pl (L : List Ev) : ∀ N : List Ev, ((N.map evD).filter (pIn L)).map (fPl L) = il (N.filterMap (idx L 0))
  | [] => rfl
  | o :: N => by
    have ih := in_pl L N
    rw [List.map_cons, List.filter_cons, pIn_ev, ← idx_mem' L 0 o, List.filterMap_cons]
    cases c : idx L 0 o with
    | none => exact ih
    | some i =>
      show fPl L (evD o) :: ((N.map evD).filter (pIn L)).map (fPl L) = .int i :: il (N.filterMap (idx L 0))
      rw [ih]
      congr 1
      unfold fPl
      rw [ix_ev, c]
      rfl
theorem nmd_len {p : Pb} {m : Nat} {wd ld : Int} {f : Nat} {e : Ev} (h : okQ p) (hm : 0 < m) (hm2 : m ≤ 20) : (nmd p m wd ld f e).length ≤ 100000 := by
  have hn := h.n
  have hu : ∀ b, (untL p m wd f b).length ≤ 60000 := fun b => Nat.le_trans (List.length_filter_le _ _) (upL_len h hm hm2)
  have hr : ∀ r b, (updR m r b).length ≤ 20 := fun r b => by
    unfold updR
    rw [List.length_map, rg_len]
    exact hm2
  have hr' : ∀ r t, (vaL p m wd f r t).length ≤ 20 := fun r t => by
    unfold vaL
    split
    · split
      · exact hr _ _
      · exact (by decide : 1 ≤ 20)
    · exact (by decide : 1 ≤ 20)
  unfold nmd
  split
  · unfold rqL
    have := hu (e.t - wd)
    have h1 : (ackL p f e.r e.t).length ≤ 1 := by
      unfold ackL
      split
      · exact Nat.le_refl _
      · exact Nat.zero_le _
    rw [List.length_append]
    omega
  split
  · have := hr' e.r e.t
    omega
  split
  · unfold cpL
    have := hu (e.t - ld)
    simp only [List.length_append, List.length_map, rg_len, List.length_cons, List.length_nil]
    omega
  split
  · exact (by decide : 1 ≤ 100000)
  split
  · have := hr e.r e.t
    omega
  · exact (by decide : 1 ≤ 100000)
def cauL (p : Pb) (m : Nat) (wd ld : Int) (f : Nat) (e : Ev) : List Ev := (evL p m wd f).filter fun o => decide (o ∈ nmd p m wd ld f e)
section
variable {C : Cl} {p : Pb} {m : Nat} {wd ld : Int} {f j : Nat} {w : List WO} {ek : List (List Key)} {ex : List D}
theorem has_ok {e : Ev} (hj : w[j]? = some (crs C p m wd ld f ek ex)) : G_Coursehas C [.h j, .d (evD e)] w = some (.ok (.d (.bl (decide (e ∈ evL p m wd f)))), w) :=
  fnG_rt (q := ⟨[.hnd j, .dat (evD e)], w⟩) (sRet_ok (ifb_t (tOf_ok (eCall_w (aCons_ok rfl rfl) rfl (like_ok e w))) (eOp_ok rfl (eFld_ok rfl hj rfl) din_ev)))
abbrev N5 (e : Ev) (j : Nat) (w : List WO) : Stt := ⟨[.hnd j, .dat (evD e), .dat (.str e.k), .dat (.int e.r), .dat (.int e.t)], w⟩
theorem cut3 (e : Ev) : sAsg (eSl (eVar 1) (ret none) (bnd (eC (.int 3)) fun x => lft ((toI x).map some))) (gTupD 3 (gsCons (gSet 2) (gsCons (gSet 3) (gsCons (gSet 4) gsNil)))) (fnQ 5 [.h j, .d (evD e)] w) = some (.nx (N5 e j w)) := by
  obtain ⟨k, r, t, u⟩ := e
  cases u <;> rfl
theorem kne {e : Ev} {c : Str} {A : MS} (h : decide (e.k = c) = false) : sIf (tOf (eOp gEq (eVar 2) (eC (.str c)))) A sNext (N5 e j w) = some (.nx (N5 e j w)) :=
  sIf_f (tOf_ok (eOp_ok rfl rfl (show some (D.bl (decide (e.k = c))) = _ by rw [h]))) rfl
theorem keq {e : Ev} {c : Str} {A : MS} {z : Option Fl} (h : decide (e.k = c) = true) (k : A (N5 e j w) = z) : sIf (tOf (eOp gEq (eVar 2) (eC (.str c)))) A sNext (N5 e j w) = z :=
  sIf_t (tOf_ok (eOp_ok rfl rfl (show some (D.bl (decide (e.k = c))) = _ by rw [h]))) k
theorem kd_ok {e : Ev} {x : Str} (h6 : kdD tb_KINDS_BEFORE (.str e.k) = some (.str x)) : eKd tb_KINDS_BEFORE (eVar 2) (N5 e j w) = some (.ok (.d (.str x)), N5 e j w) := by
  have h1 : eVar 2 (N5 e j w) = some (.ok (.d (.str e.k)), N5 e j w) := rfl
  simp only [eKd, bnd, h1, h6, Option.map, lft]
theorem named_ok {e : Ev} {kn : List St3} {t : Int} (h : okQ p) (hm : 0 < m) (hm2 : m ≤ 20) (he : ∀ r t : Int, lookD ek ex [.inl r, .inl t] = (prvR p f r t).map .int) (hj : w[j]? = some (crs C p m wd ld f ek ex)) (hi : IsEv p m kn t e) :
    ∃ w2, G_Course_named_causes C [.h j, .d (evD e)] w = some (.ok (.d (.lst ((nmd p m wd ld f e).map evD))), w ++ w2) := by
  have last : ∀ (e : Ev) (x : Str), decide (e.k = "request") = false → decide (e.k = "value") = false → decide (e.k = "compute") = false → decide (e.k = "update") = false → decide (e.k = "write") = false → kdD tb_KINDS_BEFORE (.str e.k) = some (.str x) → G_Course_named_causes C [.h j, .d (evD e)] w = some (.ok (.d (.lst [evD ⟨x, e.r, e.t, none⟩])), w) := fun e x h1 h2 h3 h4 h5 h6 =>
    fnG_rt (q := N5 e j w) (sSeq_to (cut3 e) (sSeq_to (kne h1) (sSeq_to (kne h2) (sSeq_to (kne h3) (sSeq_to (kne h4) (sSeq_to (kne h5) (sRet_ok (eL_ok (lLst_ok (ds := [evD ⟨x, e.r, e.t, none⟩]) (aCons_ok (x := .d (evD ⟨x, e.r, e.t, none⟩)) (eTup_ok (ds := [.str x, .int e.r, .int e.t]) (aCons_ok (kd_ok h6) (aCons_ok rfl (aCons_ok rfl rfl))) rfl (show 3 ≤ big by decide)) rfl) rfl (show 1 ≤ big by decide))))))))))
  cases hi with
  | rq hr =>
    rename_i r
    exact ⟨[WO.dead], fnG_rt (q := ⟨[.hnd j, .dat (evD ⟨"request", r, t, none⟩), .dat (.str "request"), .dat (.int r), .dat (.int t)], w ++ [WO.dead]⟩) (sSeq_to (cut3 ⟨"request", r, t, none⟩) (sSeq_rt (keq rfl (sRet_ok (eMeth_ok (q1 := N5 ⟨"request", r, t, none⟩ j w) rfl hj nk_brq (aCons_ok rfl (aCons_ok rfl rfl)) rfl (before_rq h hm hm2 he hj))))))⟩
  | rd hr => exact ⟨[], by rw [List.append_nil]; exact last _ "request" rfl rfl rfl rfl rfl rfl⟩
  | rp hr => exact ⟨[], by rw [List.append_nil]; exact last _ "read" rfl rfl rfl rfl rfl rfl⟩
  | va hr =>
    rename_i r u
    exact ⟨[], by rw [List.append_nil]; exact fnG_rt (q := N5 ⟨"value", r, t, some u⟩ j w) (sSeq_to (cut3 ⟨"value", r, t, some u⟩) (sSeq_to (kne rfl) (sSeq_rt (keq rfl (sRet_ok (eMeth_w rfl hj nk_bva (aCons_ok rfl (aCons_ok rfl rfl)) rfl (before_va hm2 he hj)))))))⟩
  | cp hr =>
    rename_i r
    exact ⟨[WO.dead], fnG_rt (q := ⟨[.hnd j, .dat (evD ⟨"compute", r, t, none⟩), .dat (.str "compute"), .dat (.int r), .dat (.int t)], w ++ [WO.dead]⟩) (sSeq_to (cut3 ⟨"compute", r, t, none⟩) (sSeq_to (kne rfl) (sSeq_to (kne rfl) (sSeq_rt (keq rfl (sRet_ok (eMeth_ok (q1 := N5 ⟨"compute", r, t, none⟩ j w) rfl hj nk_bcp (aCons_ok rfl (aCons_ok rfl rfl)) rfl (before_cp h hm hm2 hj))))))))⟩
  | up hr =>
    rename_i r u
    exact ⟨[], by rw [List.append_nil]; exact fnG_rt (q := N5 ⟨"update", r, t, some u⟩ j w) (sSeq_to (cut3 ⟨"update", r, t, some u⟩) (sSeq_to (kne rfl) (sSeq_to (kne rfl) (sSeq_to (kne rfl) (sSeq_rt (keq rfl (sRet_ok (eL_ok (lLst_ok (aCons_ok (eTup_ok (aCons_ok rfl (aCons_ok (eIx_d rfl rfl rfl) (aCons_ok rfl rfl))) rfl (show 3 ≤ big by decide)) rfl) rfl (show 1 ≤ big by decide))))))))))⟩
  | wr hr =>
    rename_i r
    exact ⟨[], by rw [List.append_nil]; exact fnG_rt (q := N5 ⟨"write", r, t, none⟩ j w) (sSeq_to (cut3 ⟨"write", r, t, none⟩) (sSeq_to (kne rfl) (sSeq_to (kne rfl) (sSeq_to (kne rfl) (sSeq_to (kne rfl) (sSeq_rt (keq rfl (sRet_ok (eMeth_w rfl hj nk_updrow (aCons_ok rfl (aCons_ok rfl rfl)) rfl (updrow_ok hm2 hj))))))))))⟩
  | ak hr => exact ⟨[], by rw [List.append_nil]; exact last _ "write" rfl rfl rfl rfl rfl rfl⟩
theorem crs_ext {w2 : List WO} (hj : w[j]? = some (crs C p m wd ld f ek ex)) : (w ++ w2)[j]? = some (crs C p m wd ld f ek ex) := by
  have h1 := (List.getElem?_eq_some_iff.mp hj).1
  rw [List.getElem?_append_left h1]
  exact hj
theorem causes_of_ok {e : Ev} (h : okQ p) (hm : 0 < m) (hm2 : m ≤ 20) (he : ∀ r t : Int, lookD ek ex [.inl r, .inl t] = (prvR p f r t).map .int) (hj : w[j]? = some (crs C p m wd ld f ek ex)) (hi : e ∈ evL p m wd f) (hnd : (nmd p m wd ld f e).Nodup) :
    ∃ w2, G_Coursecauses_of C [.h j, .d (evD e)] w = some (.ok (.d (.tup ((cauL p m wd ld f e).map evD))), w ++ w2) := by
  obtain ⟨w2, hn⟩ := named_ok h hm hm2 he hj (evL_mem.mp hi).2
  have hj2 := crs_ext (w2 := w2) hj
  have hl := nmd_len (wd := wd) (ld := ld) (f := f) (e := e) h hm hm2
  have hL := evL_len (wd := wd) (f := f) h hm hm2
  have c1 : lLc [4] (iOf (eVar 2)) (gSet 4) (tOf (eOp (gDin false) (eVar 4) (eFld C.Course_ "places" (eVar 0)))) (eIx (eFld C.Course_ "places" (eVar 0)) (eVar 4)) ⟨[.hnd j, .dat (evD e), .dat (.lst ((nmd p m wd ld f e).map evD)), .un, .un, .un], w ++ w2⟩ = some (.ok (((((nmd p m wd ld f e).map evD)).filter (pIn (evL p m wd f))).map (fPl (evL p m wd f))), ⟨[.hnd j, .dat (evD e), .dat (.lst ((nmd p m wd ld f e).map evD)), .un, .un, .un], w ++ w2⟩) := by
    refine lLc_flt (pIn (evL p m wd f)) (fPl (evL p m wd f)) (iOf_ok rfl rfl) (by rw [List.length_map]; exact Nat.le_trans hl (by decide)) rfl fun d hd => ?_
    obtain ⟨o, _, rfl⟩ := List.mem_map.mp hd
    refine ⟨_, rfl, rfl, tOf_ok (eOp_ok rfl (eFld_ok rfl hj2 rfl) (by rw [pIn_ev]; exact din_ev)), fun hp => ?_⟩
    rw [pIn_ev, ← idx_mem' _ 0] at hp
    obtain ⟨i, hi⟩ := Option.isSome_iff_exists.mp hp
    refine eIx_d (eFld_ok rfl hj2 rfl) rfl (z := fPl (evL p m wd f) (evD o)) ?_
    unfold fPl
    rw [ix_ev, hi]
    rfl
  rw [in_pl] at c1
  have c2 : eL (lCB gSorted (aCons (eL (lLc [4] (iOf (eVar 2)) (gSet 4) (tOf (eOp (gDin false) (eVar 4) (eFld C.Course_ "places" (eVar 0)))) (eIx (eFld C.Course_ "places" (eVar 0)) (eVar 4)))) aNil)) ⟨[.hnd j, .dat (evD e), .dat (.lst ((nmd p m wd ld f e).map evD)), .un, .un, .un], w ++ w2⟩ = some (.ok (.d (.lst (il (posL (nmd p m wd ld f e) (evL p m wd f) 0)))), ⟨[.hnd j, .dat (evD e), .dat (.lst ((nmd p m wd ld f e).map evD)), .un, .un, .un], w ++ w2⟩) := by
    have := gSorted_il (l := (nmd p m wd ld f e).filterMap (idx (evL p m wd f) 0))
    rw [srt_pos evL_nd hnd] at this
    exact eL_ok (lCB1_ok (eL_ok c1) this)
  have c3 : lLc [5] (iOf (eVar 3)) (gSet 5) (ret true) (eIx (eFld C.Course_ "listed" (eVar 0)) (eVar 5)) ⟨[.hnd j, .dat (evD e), .dat (.lst ((nmd p m wd ld f e).map evD)), .dat (.lst (il (posL (nmd p m wd ld f e) (evL p m wd f) 0))), .un, .un], w ++ w2⟩ = some (.ok ((il (posL (nmd p m wd ld f e) (evL p m wd f) 0)).map (fAt (eventsL p m wd f))), ⟨[.hnd j, .dat (evD e), .dat (.lst ((nmd p m wd ld f e).map evD)), .dat (.lst (il (posL (nmd p m wd ld f e) (evL p m wd f) 0))), .un, .un], w ++ w2⟩) := by
    refine lLc_pure (fAt (eventsL p m wd f)) (iOf_ok rfl rfl) ?_ rfl fun d hd => ?_
    · rw [il_len]
      have hsub : ∀ (N L : List Ev) (a : Int), (posL N L a).length ≤ L.length := by
        intro N L
        induction L with
        | nil => exact fun a => Nat.le_refl _
        | cons x l ih =>
          intro a
          rw [posL_cons, List.length_cons]
          have := ih (a + 1)
          split
          · rw [List.length_cons]
            omega
          · omega
      exact Nat.le_trans (hsub _ _ _) (Nat.le_trans hL (by decide))
    · obtain ⟨i, hi, rfl⟩ := List.mem_map.mp hd
      have h0 := posL_ge _ _ _ hi
      have h1 := posL_lt _ _ _ hi
      refine ⟨_, rfl, rfl, eIx_d (eFld_ok rfl hj2 rfl) rfl (z := fAt (eventsL p m wd f) (.int i)) ?_⟩
      unfold fAt
      have hlt : i < (eventsL p m wd f).length := by
        rw [← evL_D, List.length_map]
        omega
      have : ixD (.tup (eventsL p m wd f)) (.int i) = some ((eventsL p m wd f)[i.toNat]'(by omega)) := by
        show atI (eventsL p m wd f) i = _
        rw [atI_nat h0 hlt, List.getElem?_eq_getElem (by omega)]
      rw [this]
      rfl
  have c4 : (il (posL (nmd p m wd ld f e) (evL p m wd f) 0)).map (fAt (eventsL p m wd f)) = (cauL p m wd ld f e).map evD := by
    show (il (posL (nmd p m wd ld f e) (evL p m wd f) 0)).map (fAt (eventsL p m wd f)) = ((evL p m wd f).filter fun o => decide (o ∈ nmd p m wd ld f e)).map evD
    rw [← posL_map (G := fun i => fAt (eventsL p m wd f) (.int i)) (evL p m wd f) 0 fun k hk => ?_]
    · exact List.map_map
    · have hlt : k < (eventsL p m wd f).length := by
        rw [← evL_D, List.length_map]
        exact hk
      show fAt (eventsL p m wd f) (.int (0 + k)) = _
      unfold fAt
      have : ixD (.tup (eventsL p m wd f)) (.int (0 + (k : Int))) = some (eventsL p m wd f)[k] := by
        show atI (eventsL p m wd f) (0 + (k : Int)) = _
        rw [Int.zero_add, atI_nat (by omega) (by omega), Int.toNat_natCast, List.getElem?_eq_getElem hlt]
      rw [this]
      simp only [← evL_D, List.getElem_map, Option.getD_some]
  rw [c4] at c3
  exact ⟨w2, fnG_rt (q := ⟨[.hnd j, .dat (evD e), .dat (.lst ((nmd p m wd ld f e).map evD)), .dat (.lst (il (posL (nmd p m wd ld f e) (evL p m wd f) 0))), .un, .un], w ++ w2⟩) (sSeq_to (sAsg_ok (eMeth_ok rfl hj nk_named (aCons_ok rfl rfl) rfl hn) rfl) (sSeq_to (sAsg_ok c2 rfl) (sRet_ok (eCB1_ok (eL_ok c3) rfl))))⟩
end
end Den

namespace Den
open PySem PySem.Spec PyProof.Rows L2
open Evl (Ex)
/-! ### what the law calls a cause -/
def fol (us : List Int) (o e : Ev) : Bool := !decide (o.k = "compute") && (decide (o.r = e.r) && (decide (o.t ∈ us) && decide ((us.filter fun v => decide (o.t < v)).take 1 = [e.t])))
def isC (p : Pb) (wd ld : Int) (f : Nat) (o e : Ev) : Bool :=
  if decide (e.k = "request") then (decide (o.k = "ack") && fol (usesL p f e.r) o e) || (decide (o.k = "update") && decide (o.t + wd ≤ e.t))
  else if decide (e.k = "value") then if decide (o.k = "reply") then decide (o.r = e.r) && decide (o.t = e.t) else decide (o.k = "update") && (fol (usesL p f e.r) o e && decide (e.t ≤ o.t + wd))
  else if decide (e.k = "compute") then if decide (o.k = "compute") then decide (o.r = e.r) && decide (o.t = e.t - 1) else if decide (o.k = "value") then decide (o.t = e.t) && decide (o.w.getD 0 = e.r) else decide (o.k = "update") && decide (o.t + ld ≤ e.t)
  else if decide (e.k = "update") then decide (o = ⟨"compute", e.w.getD 0, e.t, none⟩)
  else if decide (e.k = "write") then decide (o.k = "update") && (decide (o.r = e.r) && decide (o.t = e.t))
  else decide (o = ⟨bfK e.k, e.r, e.t, none⟩)
theorem fol_iff {us : List Int} {o e : Ev} : fol us o e = true ↔ o.k ≠ "compute" ∧ o.r = e.r ∧ nxt us o.t e.t := by
  unfold fol nxt
  simp
/-! ### the law's causes are those that are named -/
section
variable {p : Pb} {m : Nat} {wd ld : Int} {f : Nat}
theorem hoL_mem {r u : Int} {t : Nat} (h : (r, u) ∈ hoL p m t) : r ∈ rg 0 p.rows.length ∧ u ∈ usersL p m r t := by
  unfold hoL at h
  obtain ⟨a, h1, h2⟩ := List.mem_flatMap.mp h
  obtain ⟨b, h3, h4⟩ := List.mem_map.mp h2
  cases h4
  exact ⟨h1, h3⟩
theorem users_in {r u : Int} {t : Nat} (hm : 0 < m) (h : u ∈ usersL p m r t) : u ∈ rg 0 m := by
  rw [← users_eq hm] at h
  unfold lusersL at h
  exact (List.mem_filter.mp h).1
theorem unt_mem {o : Ev} {b : Int} (ho : o ∈ evL p m wd f) : o ∈ untL p m wd f b ↔ o.k = "update" ∧ o.t ≤ b := by
  unfold untL upL
  simp [ho, and_comm]
theorem unt_k {o : Ev} {b : Int} (ho : o ∈ untL p m wd f b) : o.k = "update" := by
  exact of_decide_eq_true (List.mem_filter.mp (List.mem_filter.mp ho).1).2
theorem unt_nd {b : Int} : (untL p m wd f b).Nodup := (evL_nd.filter _).filter _
theorem updR_mem {o : Ev} {r b : Int} : o ∈ updR m r b ↔ o.k = "update" ∧ o.r = r ∧ o.t = b ∧ ∃ u ∈ rg 0 m, o.w = some u := by
  unfold updR
  rw [List.mem_map]
  constructor
  · rintro ⟨u, h, rfl⟩
    exact ⟨rfl, rfl, rfl, u, h, rfl⟩
  · rintro ⟨h1, h2, h3, u, h4, h5⟩
    obtain ⟨k, r', t', w'⟩ := o
    cases h1
    cases h2
    cases h3
    cases h5
    exact ⟨u, h4, rfl⟩
theorem updR_nd {r b : Int} : (updR m r b).Nodup := by
  unfold updR
  exact List.Pairwise.map _ (fun a b h e => h (by injection e with _ _ _ e; injection e)) (lt_nd (rg_pw m 0))
theorem ackL_mem {o : Ev} {r t : Int} (hr : r ∈ rg 0 p.rows.length) : o ∈ ackL p f r t ↔ o.k = "ack" ∧ o.r = r ∧ o.w = none ∧ nxt (usesL p f r) o.t t := by
  unfold ackL prvR
  rw [if_pos hr]
  cases c : prv (usesL p f r) t with
  | none =>
    constructor
    · intro h
      cases h
    · rintro ⟨_, _, _, h⟩
      rw [← prv_iff _ _ _ uses_pw, c] at h
      cases h
  | some u =>
    have h0 := (prv_iff _ _ _ uses_pw).mp c
    rw [List.mem_singleton]
    constructor
    · rintro rfl
      exact ⟨rfl, rfl, rfl, h0⟩
    · rintro ⟨h1, h2, h3, h4⟩
      rw [← prv_iff _ _ _ uses_pw, c] at h4
      obtain ⟨k, r', t', w'⟩ := o
      cases h1
      cases h2
      cases h3
      cases h4
      rfl
theorem ackL_nd {r t : Int} : (ackL p f r t).Nodup := by
  unfold ackL
  split
  · exact List.pairwise_singleton _ _
  · exact .nil
theorem app_nd {A B : List Ev} {k : Str} (hA : A.Nodup) (hB : B.Nodup) (ha : ∀ e ∈ A, e.k = k) (hb : ∀ e ∈ B, e.k ≠ k) : (A ++ B).Nodup :=
  List.nodup_append.mpr ⟨hA, hB, fun a h1 b h2 e => hb b h2 (by rw [← e]; exact ha a h1)⟩
theorem nmd_nd {e : Ev} : (nmd p m wd ld f e).Nodup := by
  unfold nmd
  split
  · refine app_nd unt_nd ackL_nd (fun e h => unt_k h) fun e h => ?_
    unfold ackL at h
    split at h
    · rw [List.mem_singleton.mp h]
      exact of_decide_eq_false rfl
    · cases h
  split
  · unfold vaL
    split
    · split
      · exact updR_nd
      · exact List.pairwise_singleton _ _
    · exact List.pairwise_singleton _ _
  split
  · unfold cpL
    rw [List.append_assoc]
    refine app_nd unt_nd (List.nodup_append.mpr ⟨List.pairwise_singleton _ _, ?_, fun a h1 b h2 e => ?_⟩) (fun e h => unt_k h) fun e h => ?_
    · exact List.Pairwise.map _ (fun a b h e => h (by injection e)) (lt_nd (rg_pw _ 0))
    · rw [List.mem_singleton] at h1
      obtain ⟨x, _, rfl⟩ := List.mem_map.mp h2
      rw [h1] at e
      exact absurd (congrArg Ev.k e) (of_decide_eq_false rfl)
    · rcases List.mem_append.mp h with h | h
      · rw [List.mem_singleton.mp h]
        exact of_decide_eq_false rfl
      · obtain ⟨x, _, rfl⟩ := List.mem_map.mp h
        exact of_decide_eq_false rfl
  split
  · exact List.pairwise_singleton _ _
  split
  · exact updR_nd
  · exact List.pairwise_singleton _ _
theorem upd_w {o : Ev} (hm : 0 < m) (ho : o ∈ evL p m wd f) (hk : o.k = "update") : ∃ u ∈ rg 0 m, o.w = some u := by
  obtain ⟨t, h⟩ : ∃ t, IsEv p m (staysL p wd f) t o := ⟨_, (evL_mem.mp ho).2⟩
  cases h with
  | up h => exact ⟨_, users_in hm (hoL_mem h).2, rfl⟩
  | _ => exact absurd hk (of_decide_eq_false rfl)
theorem ack_w {o : Ev} (ho : o ∈ evL p m wd f) (hk : o.k = "ack") : o.w = none := by
  obtain ⟨t, h⟩ : ∃ t, IsEv p m (staysL p wd f) t o := ⟨_, (evL_mem.mp ho).2⟩
  cases h with
  | ak h => rfl
  | _ => exact absurd hk (of_decide_eq_false rfl)
theorem rep_w {o : Ev} (ho : o ∈ evL p m wd f) (hk : o.k = "reply") : o.w = none ∧ ∀ u ∈ usesL p f o.r, u < o.t → u + wd < o.t := by
  obtain ⟨t, h⟩ : ∃ t, IsEv p m (staysL p wd f) t o := ⟨_, (evL_mem.mp ho).2⟩
  cases h with
  | rp h => exact ⟨rfl, (opL_mem h).2.2⟩
  | _ => exact absurd hk (of_decide_eq_false rfl)
theorem cmp_w {o : Ev} (ho : o ∈ evL p m wd f) (hk : o.k = "compute") : o.w = none := by
  obtain ⟨t, h⟩ : ∃ t, IsEv p m (staysL p wd f) t o := ⟨_, (evL_mem.mp ho).2⟩
  cases h with
  | cp h => rfl
  | _ => exact absurd hk (of_decide_eq_false rfl)
theorem val_w {o : Ev} (ho : o ∈ evL p m wd f) (hk : o.k = "value") : o.r ∈ rg 0 p.rows.length ∧ ∃ u, o.w = some u := by
  obtain ⟨t, h⟩ : ∃ t, IsEv p m (staysL p wd f) t o := ⟨_, (evL_mem.mp ho).2⟩
  cases h with
  | va h => exact ⟨(hoL_mem h).1, _, rfl⟩
  | _ => exact absurd hk (of_decide_eq_false rfl)
theorem ev_ext {o : Ev} {k : Str} {r t : Int} {w : Option Int} (h1 : o.k = k) (h2 : o.r = r) (h3 : o.t = t) (h4 : o.w = w) : o = ⟨k, r, t, w⟩ := by
  obtain ⟨k', r', t', w'⟩ := o
  cases h1
  cases h2
  cases h3
  cases h4
  rfl
theorem sne {a b : Str} (h : decide (a = b) = false) : a ≠ b := of_decide_eq_false h
theorem isC_rq {o : Ev} {r t : Int} (hr : r ∈ rg 0 p.rows.length) (ho : o ∈ evL p m wd f) : isC p wd ld f o ⟨"request", r, t, none⟩ = true ↔ o ∈ rqL p m wd f r t := by
  show ((decide (o.k = "ack") && fol (usesL p f r) o ⟨"request", r, t, none⟩) || (decide (o.k = "update") && decide (o.t + wd ≤ t))) = true ↔ _
  unfold rqL
  rw [Bool.or_eq_true, Bool.and_eq_true, Bool.and_eq_true, decide_eq_true_eq, decide_eq_true_eq, decide_eq_true_eq, fol_iff, List.mem_append, unt_mem ho, ackL_mem hr]
  constructor
  · rintro (⟨h1, h2, h3, h4⟩ | ⟨h1, h2⟩)
    · exact .inr ⟨h1, h3, ack_w ho h1, h4⟩
    · exact .inl ⟨h1, by omega⟩
  · rintro (⟨h1, h2⟩ | ⟨h1, h2, h3, h4⟩)
    · exact .inr ⟨h1, by omega⟩
    · exact .inl ⟨h1, by rw [h1]; exact sne rfl, h2, h4⟩
theorem isC_va {o : Ev} {r t u : Int} (hm : 0 < m) (hr : r ∈ rg 0 p.rows.length) (ho : o ∈ evL p m wd f) : isC p wd ld f o ⟨"value", r, t, some u⟩ = true ↔ o ∈ vaL p m wd f r t := by
  show (if decide (o.k = "reply") then decide (o.r = r) && decide (o.t = t) else decide (o.k = "update") && (fol (usesL p f r) o ⟨"value", r, t, some u⟩ && decide (t ≤ o.t + wd))) = true ↔ _
  have hfu : o.k = "update" → (fol (usesL p f r) o ⟨"value", r, t, some u⟩ = true ↔ o.r = r ∧ prv (usesL p f r) t = some o.t) := fun hk => by
    rw [fol_iff, ← prv_iff _ _ _ uses_pw]
    constructor
    · rintro ⟨_, h2, h3⟩
      exact ⟨h2, h3⟩
    · rintro ⟨h2, h3⟩
      exact ⟨by rw [hk]; exact sne rfl, h2, h3⟩
  have hrp : o ∈ [(⟨"reply", r, t, none⟩ : Ev)] ↔ o.k = "reply" ∧ o.r = r ∧ o.t = t := by
    rw [List.mem_singleton]
    constructor
    · rintro rfl
      exact ⟨rfl, rfl, rfl⟩
    · rintro ⟨h1, h2, h3⟩
      exact ev_ext h1 h2 h3 (rep_w ho h1).1
  unfold vaL prvR
  rw [if_pos hr]
  by_cases hk : o.k = "reply"
  · rw [if_pos (decide_eq_true hk), Bool.and_eq_true, decide_eq_true_eq, decide_eq_true_eq]
    cases c : prv (usesL p f r) t with
    | none =>
      rw [hrp]
      exact ⟨fun h => ⟨hk, h⟩, fun h => h.2⟩
    | some v =>
      have h0 := (prv_iff _ _ _ uses_pw).mp c
      have h1 := nxt_lt h0
      by_cases c2 : t ≤ v + wd
      · show _ ↔ o ∈ (if t ≤ v + wd then updR m r v else [⟨"reply", r, t, none⟩])
        rw [if_pos c2, updR_mem]
        constructor
        · rintro ⟨h2, h3⟩
          have := (rep_w ho hk).2 v (by rw [h2]; exact h0.1) (by rw [h3]; exact h1.1)
          omega
        · rintro ⟨h2, _⟩
          rw [h2] at hk
          exact absurd hk (sne rfl)
      · show _ ↔ o ∈ (if t ≤ v + wd then updR m r v else [⟨"reply", r, t, none⟩])
        rw [if_neg c2, hrp]
        exact ⟨fun h => ⟨hk, h⟩, fun h => h.2⟩
  · rw [if_neg (by simpa using hk), Bool.and_eq_true, Bool.and_eq_true, decide_eq_true_eq, decide_eq_true_eq]
    cases c : prv (usesL p f r) t with
    | none =>
      rw [hrp]
      constructor
      · rintro ⟨h1, h2, h3⟩
        have := (hfu h1).mp h2
        rw [c] at this
        cases this.2
      · rintro ⟨h1, _⟩
        exact absurd h1 hk
    | some v =>
      by_cases c2 : t ≤ v + wd
      · show _ ↔ o ∈ (if t ≤ v + wd then updR m r v else [⟨"reply", r, t, none⟩])
        rw [if_pos c2, updR_mem]
        constructor
        · rintro ⟨h1, h2, h3⟩
          have h4 := (hfu h1).mp h2
          rw [c] at h4
          exact ⟨h1, h4.1, (Option.some.inj h4.2).symm, upd_w hm ho h1⟩
        · rintro ⟨h1, h2, h3, h4⟩
          exact ⟨h1, (hfu h1).mpr ⟨h2, by rw [c, h3]⟩, by rw [h3]; exact c2⟩
      · show _ ↔ o ∈ (if t ≤ v + wd then updR m r v else [⟨"reply", r, t, none⟩])
        rw [if_neg c2, hrp]
        constructor
        · rintro ⟨h1, h2, h3⟩
          have h4 := (hfu h1).mp h2
          rw [c] at h4
          rw [Option.some.inj h4.2] at c2
          exact absurd h3 c2
        · rintro ⟨h1, _⟩
          exact absurd h1 hk
theorem isC_cp {o : Ev} {r t : Int} (ho : o ∈ evL p m wd f) : isC p wd ld f o ⟨"compute", r, t, none⟩ = true ↔ o ∈ cpL p m wd ld f r t := by
  show (if decide (o.k = "compute") then decide (o.r = r) && decide (o.t = t - 1) else if decide (o.k = "value") then decide (o.t = t) && decide (o.w.getD 0 = r) else decide (o.k = "update") && decide (o.t + ld ≤ t)) = true ↔ _
  unfold cpL
  rw [List.mem_append, List.mem_append, unt_mem ho, List.mem_singleton, List.mem_map]
  by_cases h1 : o.k = "compute"
  · rw [if_pos (decide_eq_true h1), Bool.and_eq_true, decide_eq_true_eq, decide_eq_true_eq]
    constructor
    · rintro ⟨h2, h3⟩
      exact .inl (.inr (ev_ext h1 h2 h3 (cmp_w ho h1)))
    · rintro ((⟨h2, _⟩ | h2) | ⟨x, _, h2⟩)
      · rw [h1] at h2
        exact absurd h2 (sne rfl)
      · rw [h2]
        exact ⟨rfl, rfl⟩
      · rw [← h2] at h1
        exact absurd h1 (sne rfl)
  · rw [if_neg (by simpa using h1)]
    by_cases h2 : o.k = "value"
    · rw [if_pos (decide_eq_true h2), Bool.and_eq_true, decide_eq_true_eq, decide_eq_true_eq]
      obtain ⟨hrow, u, hu⟩ := val_w ho h2
      rw [hu]
      constructor
      · rintro ⟨h3, h4⟩
        have h4' : u = r := h4
        exact .inr ⟨o.r, hrow, (ev_ext h2 rfl h3 (by rw [hu, h4'])).symm⟩
      · rintro ((⟨h3, _⟩ | h3) | ⟨x, _, h3⟩)
        · rw [h2] at h3
          exact absurd h3 (sne rfl)
        · rw [h3] at h2
          exact absurd h2 (sne rfl)
        · rw [← h3] at hu
          rw [← h3]
          exact ⟨rfl, (Option.some.inj hu).symm⟩
    · rw [if_neg (by simpa using h2), Bool.and_eq_true, decide_eq_true_eq, decide_eq_true_eq]
      constructor
      · rintro ⟨h3, h4⟩
        exact .inl (.inl ⟨h3, by omega⟩)
      · rintro ((⟨h3, h4⟩ | h3) | ⟨x, _, h3⟩)
        · exact ⟨h3, by omega⟩
        · rw [h3] at h1
          exact absurd rfl h1
        · rw [← h3] at h2
          exact absurd rfl h2
theorem isC_iff {o e : Ev} (hm : 0 < m) (ho : o ∈ evL p m wd f) (he : e ∈ evL p m wd f) : isC p wd ld f o e = true ↔ o ∈ nmd p m wd ld f e := by
  obtain ⟨t, h⟩ : ∃ t, IsEv p m (staysL p wd f) t e := ⟨_, (evL_mem.mp he).2⟩
  have one : ∀ (c : Ev), decide (o = c) = true ↔ o ∈ [c] := fun c => by rw [decide_eq_true_eq, List.mem_singleton]
  cases h with
  | rq h => exact isC_rq (opL_mem h).1 ho
  | rd h => exact one _
  | rp h => exact one _
  | va h => exact isC_va hm (hoL_mem h).1 ho
  | cp h => exact isC_cp ho
  | up h => exact one _
  | ak h => exact one _
  | wr h =>
    rename_i r
    show (decide (o.k = "update") && (decide (o.r = r) && decide (o.t = t))) = true ↔ o ∈ updR m r t
    rw [Bool.and_eq_true, Bool.and_eq_true, decide_eq_true_eq, decide_eq_true_eq, decide_eq_true_eq, updR_mem]
    constructor
    · rintro ⟨h1, h2, h3⟩
      exact ⟨h1, h2, h3, upd_w hm ho h1⟩
    · rintro ⟨h1, h2, h3, _⟩
      exact ⟨h1, h2, h3⟩
theorem cauL_eq {e : Ev} (hm : 0 < m) (he : e ∈ evL p m wd f) : ((evL p m wd f).filter fun o => isC p wd ld f o e) = cauL p m wd ld f e := by
  refine List.filter_congr fun o ho => ?_
  rw [Bool.eq_iff_iff, isC_iff hm ho he, decide_eq_true_eq]
end
end Den

namespace Den
open PySem PySem.Spec PyProof.Rows L2
open Evl (Ex)
/-! ### the law's causes -/
theorem deep_ev (a b : Ev) (ha : PyData.canLay0 (.str a.k) = true) (hb : PyData.canLay0 (.str b.k) = true) : gEq (evD a) (evD b) = some (.bl (decide (a = b))) := by
  obtain ⟨k, r, t, u⟩ := a
  obtain ⟨k', r', t', u'⟩ := b
  have ha' : PyData.canLay0 (.str k) = true := ha
  have hb' : PyData.canLay0 (.str k') = true := hb
  have hi : ∀ i : Int, PyData.canLay0 (.int i) = true := fun i => by rw [PyData.canLay0]
  have h : ∀ x : Bool, deepD (evD ⟨k, r, t, u⟩) (evD ⟨k', r', t', u'⟩) = some x → gEq (evD ⟨k, r, t, u⟩) (evD ⟨k', r', t', u'⟩) = some (.bl x) := fun x h => by
    cases u <;> cases u' <;> (show (deepD _ _).map D.bl = _; rw [h]; rfl)
  apply h
  have hx : ∀ x y : Bool, x = y → some x = some y := fun x y e => by rw [e]
  cases u <;> cases u' <;>
    (simp only [deepD, evD, evT, toPy, toPyL, SeqAt.shaped, PyData.canLay0.eq_5, PyData.canLay0.eq_6, PyData.canLayAll0, ha', hb', hi, PyData.depth, PyData.depthAll, PyData.eqv, PyData.eqvAll, Option.map, Bool.and_self, Bool.true_and]
     apply hx
     rw [Bool.eq_iff_iff]
     simp)
theorem deep_one {a t : Int} : gEq (.lst [.int a]) (.lst [.int t]) = some (.bl (decide (a = t))) := by
  have hi : ∀ i : Int, PyData.canLay0 (.int i) = true := fun i => by rw [PyData.canLay0]
  have hd : deepD (.lst [.int a]) (.lst [.int t]) = some (decide (a = t)) := by
    simp [deepD, toPy, toPyL, SeqAt.shaped, PyData.canLay0, PyData.canLayAll0, PyData.depth, PyData.depthAll, PyData.eqv, PyData.eqvAll]
    rw [Bool.eq_iff_iff]
    simp
  show (deepD (.lst [.int a]) (.lst [.int t])).map D.bl = _
  rw [hd]
  rfl
theorem eq_one {l : List Int} {t : Int} : gEq (.lst (il (l.take 1))) (.lst [.int t]) = some (.bl (decide (l.take 1 = [t]))) := by
  cases l with
  | nil =>
    have hd : deepD (.lst []) (.lst [.int t]) = some false := by
      simp [deepD, toPy, toPyL, SeqAt.shaped, PyData.canLay0, PyData.canLayAll0, PyData.depth, PyData.depthAll, PyData.eqv, PyData.eqvAll]
    show (deepD (.lst []) (.lst [.int t])).map D.bl = _
    rw [hd]
    rfl
  | cons a l =>
    show gEq (.lst [.int a]) (.lst [.int t]) = _
    rw [deep_one]
    congr 2
    simp
theorem cut_one {l : List Int} : cutD (il l) none (some 1) = il (l.take 1) := by
  cases l with
  | nil => rfl
  | cons a l =>
    unfold cutD
    have h0 : HT.sIx (il (a :: l)).length (il (a :: l)).length (some 1) = 1 := by
      rw [il_len]
      have h1 : (if (1 : Int) < 0 then ((1 : Int) + ((a :: l).length : Nat)).toNat else min (Int.toNat 1) (a :: l).length) = 1 := by
        rw [if_neg (by decide)]
        show min 1 (l.length + 1) = 1
        omega
      exact h1
    rw [h0]
    rfl
theorem eand_ok {A B : ME XV} {R : Stt} {a b : Bool} (h1 : A R = some (.ok (.d (.bl a)), R)) (h2 : B R = some (.ok (.d (.bl b)), R)) : (bnd (tOf A) fun x => if x then B else ret (.d (.bl false))) R = some (.ok (.d (.bl (a && b))), R) := by
  cases a with
  | true => exact (ifb_t (tOf_ok h1) h2)
  | false => exact ifb_f (tOf_ok h1)
theorem eor_ok {A B : ME XV} {R : Stt} {a b : Bool} (h1 : A R = some (.ok (.d (.bl a)), R)) (h2 : B R = some (.ok (.d (.bl b)), R)) : (bnd (tOf A) fun x => if x then ret (.d (.bl true)) else B) R = some (.ok (.d (.bl (a || b))), R) := by
  have h := tOf_ok h1
  cases a with
  | true => simp only [bnd, h]; rfl
  | false => simp only [bnd, h]; exact h2
theorem rt_if {c : ME Bool} {A B : MS} {R : Stt} {b x y : Bool} (hc : c R = some (.ok b, R)) (hA : A R = some (.rt (.d (.bl x)) R)) (hB : B R = some (.rt (.d (.bl y)) R)) : sSeq (sIf c A sNext) B R = some (.rt (.d (.bl (if b then x else y))) R) := by
  cases b with
  | true => exact sSeq_rt (sIf_t hc hA)
  | false => exact sSeq_to (sIf_f hc rfl) hB
section
variable {p : Pb} {m : Nat} {wd ld : Int} {f : Nat} {o e : Ev} {us : List Int} {fo : Bool} {w : List WO}
abbrev Q14 (p : Pb) (m : Nat) (wd ld : Int) (f : Nat) (o e : Ev) (us : List Int) (x12 : Sl) (w : List WO) : Stt := ⟨[.dat (pbD p), .dat (stD ((m : Int), wd, ld)), .dat (.int f), .dat (evD o), .dat (evD e), .dat (.str e.k), .dat (.int e.r), .dat (.int e.t), .dat (.str o.k), .dat (.int o.r), .dat (.int o.t), .dat (.lst (il us)), x12, .un], w⟩
theorem cutE : sAsg (eSl (eVar 4) (ret none) (bnd (eC (.int 3)) fun x => lft ((toI x).map some))) (gTupD 3 (gsCons (gSet 5) (gsCons (gSet 6) (gsCons (gSet 7) gsNil)))) (fnQ 14 [.d (pbD p), .d (stD ((m : Int), wd, ld)), .d (.int f), .d (evD o), .d (evD e)] w) = some (.nx ⟨[.dat (pbD p), .dat (stD ((m : Int), wd, ld)), .dat (.int f), .dat (evD o), .dat (evD e), .dat (.str e.k), .dat (.int e.r), .dat (.int e.t), .un, .un, .un, .un, .un, .un], w⟩) := by
  obtain ⟨k, r, t, u⟩ := e
  cases u <;> rfl
theorem cutO : sAsg (eSl (eVar 3) (ret none) (bnd (eC (.int 3)) fun x => lft ((toI x).map some))) (gTupD 3 (gsCons (gSet 8) (gsCons (gSet 9) (gsCons (gSet 10) gsNil)))) ⟨[.dat (pbD p), .dat (stD ((m : Int), wd, ld)), .dat (.int f), .dat (evD o), .dat (evD e), .dat (.str e.k), .dat (.int e.r), .dat (.int e.t), .un, .un, .un, .un, .un, .un], w⟩ = some (.nx ⟨[.dat (pbD p), .dat (stD ((m : Int), wd, ld)), .dat (.int f), .dat (evD o), .dat (evD e), .dat (.str e.k), .dat (.int e.r), .dat (.int e.t), .dat (.str o.k), .dat (.int o.r), .dat (.int o.t), .un, .un, .un], w⟩) := by
  obtain ⟨k, r, t, u⟩ := o
  cases u <;> rfl
def pLt (b : Int) : D → Bool
  | .int v => decide (b < v)
  | _ => false
theorem fol_ok (hl : us.length ≤ 100) : (bnd (tOf (eOp gNe (eVar 8) (eC (.str "compute")))) fun b => if b then (bnd (tOf (eOp gEq (eVar 9) (eVar 6))) fun b => if b then (bnd (tOf (eOp (gIn false) (eVar 10) (eVar 11))) fun b => if b then (eOp gEq (eSl (eL (lLc [13] (iOf (eVar 11)) (gSet 13) (tOf (eOp (gC fun i j => decide (j < i)) (eVar 13) (eVar 10))) (eVar 13))) (ret none) (bnd (eC (.int 1)) fun x => lft ((toI x).map some))) (eL (lLst (aCons (eVar 7) aNil)))) else ret (.d (.bl false))) else ret (.d (.bl false))) else ret (.d (.bl false))) (Q14 p m wd ld f o e us .un w) = some (.ok (.d (.bl (fol us o e))), Q14 p m wd ld f o e us .un w) := by
  have hc : lLc [13] (iOf (eVar 11)) (gSet 13) (tOf (eOp (gC fun i j => decide (j < i)) (eVar 13) (eVar 10))) (eVar 13) (Q14 p m wd ld f o e us .un w) = some (.ok (((il us).filter (pLt o.t)).map fun d => d), Q14 p m wd ld f o e us .un w) := by
    refine lLc_flt (pLt o.t) (fun d => d) (iOf_ok rfl rfl) (by rw [il_len]; exact Nat.le_trans hl (by decide)) rfl fun d hd => ?_
    obtain ⟨v, _, rfl⟩ := List.mem_map.mp hd
    exact ⟨_, rfl, rfl, tOf_ok (eOp_ok rfl rfl rfl), fun _ => rfl⟩
  rw [il_flt (p := fun v => decide (o.t < v)) (fun _ => rfl) (fun _ => rfl)] at hc
  have hs : eSl (eL (lLc [13] (iOf (eVar 11)) (gSet 13) (tOf (eOp (gC fun i j => decide (j < i)) (eVar 13) (eVar 10))) (eVar 13))) (ret none) (bnd (eC (.int 1)) fun x => lft ((toI x).map some)) (Q14 p m wd ld f o e us .un w) = some (.ok (.d (.lst (il ((us.filter fun v => decide (o.t < v)).take 1)))), Q14 p m wd ld f o e us .un w) := by
    have h1 := eL_ok hc
    unfold eSl
    rw [bnd_ok h1]
    show some ((Except.ok (XV.d (.lst (cutD (il (us.filter fun v => decide (o.t < v))) none (some 1)))) : Except Value XV), Q14 p m wd ld f o e us .un w) = _
    rw [cut_one]
  have hin : gIn false (.int o.t) (.lst (il us)) = some (.bl (decide (o.t ∈ us))) := by
    rw [gIn_ls]
    rfl
  exact eand_ok (eOp_ok rfl rfl rfl) (eand_ok (eOp_ok rfl rfl rfl) (eand_ok (eOp_ok rfl rfl hin) (eOp_ok hs (eL_ok (lLst_ok (ds := [.int e.t]) (aCons_ok rfl rfl) rfl (show 1 ≤ big by decide))) eq_one)))
theorem pne {c : Str} {A : MS} {x12 : Sl} (h : decide (e.k = c) = false) : sIf (tOf (eOp gEq (eVar 5) (eC (.str c)))) A sNext (Q14 p m wd ld f o e us x12 w) = some (.nx (Q14 p m wd ld f o e us x12 w)) :=
  sIf_f (tOf_ok (eOp_ok rfl rfl (show some (D.bl (decide (e.k = c))) = _ by rw [h]))) rfl
theorem peq {c : Str} {A : MS} {x12 : Sl} {z : Option Fl} (h : decide (e.k = c) = true) (k : A (Q14 p m wd ld f o e us x12 w) = z) : sIf (tOf (eOp gEq (eVar 5) (eC (.str c)))) A sNext (Q14 p m wd ld f o e us x12 w) = z :=
  sIf_t (tOf_ok (eOp_ok rfl rfl (show some (D.bl (decide (e.k = c))) = _ by rw [h]))) k
theorem evL_str {o : Ev} (ho : o ∈ evL p m wd f) : PyData.canLay0 (.str o.k) = true := by
  obtain ⟨t, hi⟩ : ∃ t, IsEv p m (staysL p wd f) t o := ⟨_, (evL_mem.mp ho).2⟩
  cases hi <;> (rw [PyData.canLay0]; dsimp only; decide +kernel)
theorem lcause_ok (h : okQ p) (hf : f ≤ p.bs.length) (ho : o ∈ evL p m wd f) (he : e ∈ evL p m wd f) : G_law_is_cause [.d (pbD p), .d (stD ((m : Int), wd, ld)), .d (.int f), .d (evD o), .d (evD e)] w = some (.ok (.d (.bl (isC p wd ld f o e))), w) := by
  have hu := uses_len (f := f) (row := e.r) h
  have pre : ∀ {A : MS} {x : XV} {q : Stt}, A (Q14 p m wd ld f o e (usesL p f e.r) (.dat (.bl (fol (usesL p f e.r) o e))) w) = some (.rt x q) → sSeq (sAsg (eSl (eVar 4) (ret none) (bnd (eC (.int 3)) fun x => lft ((toI x).map some))) (gTupD 3 (gsCons (gSet 5) (gsCons (gSet 6) (gsCons (gSet 7) gsNil)))))
    (sSeq (sAsg (eSl (eVar 3) (ret none) (bnd (eC (.int 3)) fun x => lft ((toI x).map some))) (gTupD 3 (gsCons (gSet 8) (gsCons (gSet 9) (gsCons (gSet 10) gsNil)))))
    (sSeq (sAsg (eCall 3 G_law_uses (aCons (eVar 0) (aCons (eVar 2) (aCons (eVar 6) aNil)))) (gSet 11))
    (sSeq (sAsg (bnd (tOf (eOp gNe (eVar 8) (eC (.str "compute")))) fun b => if b then (bnd (tOf (eOp gEq (eVar 9) (eVar 6))) fun b => if b then (bnd (tOf (eOp (gIn false) (eVar 10) (eVar 11))) fun b => if b then (eOp gEq (eSl (eL (lLc [13] (iOf (eVar 11)) (gSet 13) (tOf (eOp (gC fun i j => decide (j < i)) (eVar 13) (eVar 10))) (eVar 13))) (ret none) (bnd (eC (.int 1)) fun x => lft ((toI x).map some))) (eL (lLst (aCons (eVar 7) aNil)))) else ret (.d (.bl false))) else ret (.d (.bl false))) else ret (.d (.bl false))) (gSet 12)) A)))
      (fnQ 14 [.d (pbD p), .d (stD ((m : Int), wd, ld)), .d (.int f), .d (evD o), .d (evD e)] w) = some (.rt x q) := fun hA =>
    sSeq_to cutE (sSeq_to cutO (sSeq_to (q1 := Q14 p m wd ld f o e (usesL p f e.r) .un w) (sAsg_ok (by exact eCall_w (aCons_ok rfl (aCons_ok rfl (aCons_ok rfl rfl))) rfl (luses_ok h hf)) rfl) (sSeq_to (q1 := Q14 p m wd ld f o e (usesL p f e.r) (.dat (.bl (fol (usesL p f e.r) o e))) w) (sAsg_ok (fol_ok (by omega)) rfl) hA)))
  have last : ∀ x, PyData.canLay0 (.str x) = true → ixD (.dic [.inr "read", .inr "reply", .inr "ack"] [.str "request", .str "read", .str "write"]) (.str e.k) = some (.str x) → sRet (eOp gEq (eVar 3) (eTup (aCons (eIx (eDisp [("read", "request"), ("reply", "read"), ("ack", "write")]) (eVar 5)) (aCons (eVar 6) (aCons (eVar 7) aNil))))) (Q14 p m wd ld f o e (usesL p f e.r) (.dat (.bl (fol (usesL p f e.r) o e))) w) = some (.rt (.d (.bl (decide (o = ⟨x, e.r, e.t, none⟩)))) (Q14 p m wd ld f o e (usesL p f e.r) (.dat (.bl (fol (usesL p f e.r) o e))) w)) := fun x hs hx =>
    sRet_ok (eOp_ok (x := evD o) (y := evD ⟨x, e.r, e.t, none⟩) rfl (eTup_ok (ds := [.str x, .int e.r, .int e.t]) (aCons_ok (eIx_d rfl rfl hx) (aCons_ok rfl (aCons_ok rfl rfl))) rfl (show 3 ≤ big by decide)) (deep_ev _ _ (evL_str ho) hs))
  obtain ⟨t, hi⟩ : ∃ t, IsEv p m (staysL p wd f) t e := ⟨_, (evL_mem.mp he).2⟩
  cases hi with
  | rq hr => exact fnG_rt (pre (sSeq_rt (peq rfl (sRet_ok (eor_ok (eand_ok (eOp_ok rfl rfl rfl) rfl) (eand_ok (eOp_ok rfl rfl rfl) (eOp_ok (eOp_ok rfl (eIx_d rfl rfl rfl) rfl) rfl rfl)))))))
  | rd hr => exact fnG_rt (pre (sSeq_to (pne rfl) (sSeq_to (pne rfl) (sSeq_to (pne rfl) (sSeq_to (pne rfl) (sSeq_to (pne rfl) (last _ (by rw [PyData.canLay0]; decide +kernel) rfl)))))))
  | rp hr => exact fnG_rt (pre (sSeq_to (pne rfl) (sSeq_to (pne rfl) (sSeq_to (pne rfl) (sSeq_to (pne rfl) (sSeq_to (pne rfl) (last _ (by rw [PyData.canLay0]; decide +kernel) rfl)))))))
  | ak hr => exact fnG_rt (pre (sSeq_to (pne rfl) (sSeq_to (pne rfl) (sSeq_to (pne rfl) (sSeq_to (pne rfl) (sSeq_to (pne rfl) (last _ (by rw [PyData.canLay0]; decide +kernel) rfl)))))))
  | va hr => exact fnG_rt (pre (sSeq_to (pne rfl) (sSeq_rt (peq rfl (rt_if (tOf_ok (eOp_ok rfl rfl rfl)) (sRet_ok (eand_ok (eOp_ok rfl rfl rfl) (eOp_ok rfl rfl rfl))) (sRet_ok (eand_ok (eOp_ok rfl rfl rfl) (eand_ok rfl (eOp_ok rfl (eOp_ok rfl (eIx_d rfl rfl rfl) rfl) rfl)))))))))
  | cp hr =>
    rename_i r
    by_cases hv : o.k = "value"
    · obtain ⟨_, u, hw⟩ := val_w ho hv
      have hix : ixD (evD o) (.int 3) = some (.int (o.w.getD 0)) := by
        obtain ⟨k', r', t', w'⟩ := o
        cases hw
        rfl
      exact fnG_rt (pre (sSeq_to (pne rfl) (sSeq_to (pne rfl) (sSeq_rt (peq rfl (rt_if (tOf_ok (eOp_ok rfl rfl rfl)) (sRet_ok (eand_ok (eOp_ok rfl rfl rfl) (eOp_ok rfl (eOp_ok rfl rfl rfl) rfl))) (rt_if (tOf_ok (eOp_ok rfl rfl rfl)) (sRet_ok (eand_ok (eOp_ok rfl rfl rfl) (eOp_ok (eIx_d rfl rfl hix) rfl rfl))) (sRet_ok (eand_ok (eOp_ok rfl rfl rfl) (eOp_ok (eOp_ok rfl (eIx_d rfl rfl rfl) rfl) rfl rfl))))))))))
    · have hb : isC p wd ld f o ⟨"compute", r, t, none⟩ = if decide (o.k = "compute") then decide (o.r = r) && decide (o.t = t - 1) else decide (o.k = "update") && decide (o.t + ld ≤ t) := by
        show (if decide (o.k = "compute") then decide (o.r = r) && decide (o.t = t - 1) else if decide (o.k = "value") then decide (o.t = t) && decide (o.w.getD 0 = r) else decide (o.k = "update") && decide (o.t + ld ≤ t)) = _
        rw [decide_eq_false hv]
        rfl
      rw [hb]
      have hv' : tOf (eOp gEq (eVar 8) (eC (.str "value"))) (Q14 p m wd ld f o ⟨"compute", r, t, none⟩ (usesL p f r) (.dat (.bl (fol (usesL p f r) o ⟨"compute", r, t, none⟩))) w) = some (.ok false, Q14 p m wd ld f o ⟨"compute", r, t, none⟩ (usesL p f r) (.dat (.bl (fol (usesL p f r) o ⟨"compute", r, t, none⟩))) w) := tOf_ok (eOp_ok rfl rfl (show some (D.bl (decide (o.k = "value"))) = _ by rw [decide_eq_false hv]))
      exact fnG_rt (pre (sSeq_to (pne rfl) (sSeq_to (pne rfl) (sSeq_rt (peq rfl (rt_if (tOf_ok (eOp_ok rfl rfl rfl)) (sRet_ok (eand_ok (eOp_ok rfl rfl rfl) (eOp_ok rfl (eOp_ok rfl rfl rfl) rfl))) (sSeq_to (sIf_f hv' rfl) (sRet_ok (eand_ok (eOp_ok rfl rfl rfl) (eOp_ok (eOp_ok rfl (eIx_d rfl rfl rfl) rfl) rfl rfl))))))))))
  | up hr =>
    rename_i r u
    have hup : sRet (eOp gEq (eVar 3) (eTup (aCons (eC (.str "compute")) (aCons (eIx (eVar 4) (eC (.int 3))) (aCons (eVar 7) aNil))))) (Q14 p m wd ld f o ⟨"update", r, t, some u⟩ (usesL p f r) (.dat (.bl (fol (usesL p f r) o ⟨"update", r, t, some u⟩))) w) = some (.rt (.d (.bl (decide (o = ⟨"compute", u, t, none⟩)))) (Q14 p m wd ld f o ⟨"update", r, t, some u⟩ (usesL p f r) (.dat (.bl (fol (usesL p f r) o ⟨"update", r, t, some u⟩))) w)) :=
      sRet_ok (eOp_ok (x := evD o) (y := evD ⟨"compute", u, t, none⟩) rfl (eTup_ok (ds := [.str "compute", .int u, .int t]) (aCons_ok rfl (aCons_ok (eIx_d rfl rfl rfl) (aCons_ok rfl rfl))) rfl (show 3 ≤ big by decide)) (deep_ev _ _ (evL_str ho) (by rw [PyData.canLay0]; dsimp only; decide +kernel)))
    exact fnG_rt (pre (sSeq_to (pne rfl) (sSeq_to (pne rfl) (sSeq_to (pne rfl) (sSeq_rt (peq rfl hup))))))
  | wr hr => exact fnG_rt (pre (sSeq_to (pne rfl) (sSeq_to (pne rfl) (sSeq_to (pne rfl) (sSeq_to (pne rfl) (sSeq_rt (peq rfl (sRet_ok (eand_ok (eOp_ok rfl rfl rfl) (eand_ok (eOp_ok rfl rfl rfl) (eOp_ok rfl rfl rfl)))))))))))
def isBt : Option D → Bool
  | some (.bl b) => b
  | _ => false
end
end Den

namespace Den
open PySem PySem.Spec PyProof.Rows L2
open Evl (Ex)
/-! ### events in lists -/
def okK (e : Ev) : Prop := PyData.canLay0 (.str e.k) = true
def pyE : Ev → PyData
  | ⟨k, r, t, none⟩ => .tuple [.str k, .int r, .int t]
  | ⟨k, r, t, some u⟩ => .tuple [.str k, .int r, .int t, .int u]
theorem toPy_ev (e : Ev) : toPy (evD e) = some (pyE e) := by
  obtain ⟨k, r, t, u⟩ := e
  cases u <;> simp only [evD, evT, toPy, toPyL, Option.map, pyE]
theorem toPyL_ev : ∀ l : List Ev, toPyL (l.map evD) = some (l.map pyE)
  | [] => by rw [List.map_nil, toPyL]; rfl
  | e :: l => by
    rw [List.map_cons, toPyL, toPy_ev, toPyL_ev l]
    rfl
theorem eqv_ev (a b : Ev) : PyData.eqv (pyE a) (pyE b) = decide (a = b) := by
  obtain ⟨k, r, t, u⟩ := a
  obtain ⟨k', r', t', u'⟩ := b
  cases u <;> cases u' <;>
    (simp only [pyE, PyData.eqv, PyData.eqvAll]
     rw [Bool.eq_iff_iff]
     simp)
theorem lay_ev {e : Ev} (h : okK e) : PyData.canLay0 (pyE e) = true ∧ PyData.depth (pyE e) = 1 := by
  obtain ⟨k, r, t, u⟩ := e
  have h' : PyData.canLay0 (.str k) = true := h
  have hi : ∀ i : Int, PyData.canLay0 (.int i) = true := fun i => by rw [PyData.canLay0]
  cases u <;>
    (refine ⟨?_, ?_⟩
     · simp only [pyE, PyData.canLay0.eq_5, PyData.canLay0.eq_6, PyData.canLayAll0, h', hi, Bool.and_self]
     · simp only [pyE, PyData.depth, PyData.depthAll]
       rfl)
theorem layL_ev : ∀ l : List Ev, (∀ e ∈ l, okK e) → PyData.canLayAll0 (l.map pyE) = true ∧ PyData.depthAll (l.map pyE) ≤ 1
  | [], _ => by
    refine ⟨?_, ?_⟩
    · rw [List.map_nil, PyData.canLayAll0]
    · rw [List.map_nil, PyData.depthAll]
      decide
  | e :: l, h => by
    obtain ⟨h1, h2⟩ := lay_ev (h e (by simp))
    obtain ⟨h3, h4⟩ := layL_ev l fun e m => h e (by simp [m])
    refine ⟨?_, ?_⟩
    · rw [List.map_cons, PyData.canLayAll0, h1, h3]
      rfl
    · rw [List.map_cons, PyData.depthAll, h2]
      omega
theorem any_ev (x : Ev) : ∀ l : List Ev, (l.map pyE).any (fun z => PyData.eqv z (pyE x)) = decide (x ∈ l)
  | [] => rfl
  | e :: l => by
    rw [List.map_cons, List.any_cons, eqv_ev, any_ev x l, Bool.eq_iff_iff, Bool.or_eq_true, decide_eq_true_eq, decide_eq_true_eq, decide_eq_true_eq, List.mem_cons]
    exact ⟨fun h => h.imp Eq.symm id, fun h => h.imp Eq.symm id⟩
theorem in_ev {neg : Bool} {x : Ev} {l : List Ev} (hx : okK x) (hl : ∀ e ∈ l, okK e) : gInD neg (evD x) (.lst (l.map evD)) = some (.bl (if neg then !decide (x ∈ l) else decide (x ∈ l))) := by
  obtain ⟨h1, h2⟩ := lay_ev hx
  obtain ⟨h3, h4⟩ := layL_ev l hl
  have hy : toPy (.lst (l.map evD)) = some (.list (l.map pyE)) := by
    rw [toPy, toPyL_ev]
    rfl
  have s1 : SeqAt.shaped (pyE x) = true := by
    unfold SeqAt.shaped
    rw [h1, h2]
    rfl
  have s2 : SeqAt.shaped (.list (l.map pyE)) = true := by
    unfold SeqAt.shaped
    rw [PyData.canLay0, PyData.depth, h3, Bool.true_and]
    exact decide_eq_true (by omega)
  have hd : deepD (evD x) (.lst (l.map evD)) = some (PyData.eqv (pyE x) (.list (l.map pyE))) := by
    unfold deepD
    rw [toPy_ev, hy]
    exact if_pos ⟨s1, s2⟩
  unfold gInD
  rw [hd, toPy_ev, hy]
  show some (D.bl (if neg then !((l.map pyE).any fun z => PyData.eqv z (pyE x)) else (l.map pyE).any fun z => PyData.eqv z (pyE x))) = _
  rw [any_ev]
theorem ne_ev {a b : Ev} (ha : okK a) (hb : okK b) : gNe (evD a) (evD b) = some (.bl (!decide (a = b))) := by
  have h := deep_ev a b ha hb
  obtain ⟨k, r, t, u⟩ := a
  obtain ⟨k', r', t', u'⟩ := b
  have hd : deepD (evD ⟨k, r, t, u⟩) (evD ⟨k', r', t', u'⟩) = some (decide ((⟨k, r, t, u⟩ : Ev) = ⟨k', r', t', u'⟩)) := by
    cases hq : deepD (evD ⟨k, r, t, u⟩) (evD ⟨k', r', t', u'⟩) with
    | none =>
      cases u <;> cases u' <;>
        (have h' : (deepD (evD _) (evD _)).map D.bl = some (.bl _) := h
         rw [hq] at h'
         cases h')
    | some x =>
      cases u <;> cases u' <;>
        (have h' : (deepD (evD _) (evD _)).map D.bl = some (.bl _) := h
         rw [hq] at h'
         have h2 := Option.some.inj h'
         injection h2 with h2
         rw [h2])
  cases u <;> cases u' <;> (show (deepD (evD _) (evD _)).map (fun b => D.bl (!b)) = _; rw [hd]; rfl)
/-! ### how much is orderly -/
section
variable (L : List Ev) (cs : Ev → List Ev)
def go : List Ev → List Ev → Nat
  | s, [] => s.length
  | s, x :: l => if x ∉ L ∨ x ∈ s then s.length else if (∀ c ∈ cs x, c ∈ s) then go (s ++ [x]) l else s.length
end
theorem go_le {L : List Ev} {cs : Ev → List Ev} : ∀ (l s : List Ev), go L cs s l ≤ s.length + l.length
  | [], s => Nat.le_refl _
  | x :: l, s => by
    unfold go
    split
    · simp
    · split
      · have := go_le (L := L) (cs := cs) l (s ++ [x])
        simp only [List.length_append, List.length_cons, List.length_nil] at this ⊢
        omega
      · simp
theorem go_snoc {L : List Ev} {cs : Ev → List Ev} {y : Ev} : ∀ (l s : List Ev), go L cs s l = s.length + l.length → y ∈ L → y ∉ s ++ l → (∀ c ∈ cs y, c ∈ s ++ l) → go L cs s (l ++ [y]) = s.length + l.length + 1
  | [], s, _, h1, h2, h3 => by
    rw [List.append_nil] at h2 h3
    show (if y ∉ L ∨ y ∈ s then s.length else if (∀ c ∈ cs y, c ∈ s) then (s ++ [y]).length else s.length) = _
    rw [if_neg (by simp [h1, h2]), if_pos h3]
    simp
  | x :: l, s, h0, h1, h2, h3 => by
    have hx : go L cs s (x :: l) = if x ∉ L ∨ x ∈ s then s.length else if (∀ c ∈ cs x, c ∈ s) then go L cs (s ++ [x]) l else s.length := rfl
    rw [hx] at h0
    show (if x ∉ L ∨ x ∈ s then s.length else if (∀ c ∈ cs x, c ∈ s) then go L cs (s ++ [x]) (l ++ [y]) else s.length) = _
    by_cases c1 : x ∉ L ∨ x ∈ s
    · rw [if_pos c1] at h0
      simp at h0
    · rw [if_neg c1] at h0
      rw [if_neg c1]
      by_cases c2 : ∀ c ∈ cs x, c ∈ s
      · rw [if_pos c2] at h0
        rw [if_pos c2, go_snoc l (s ++ [x]) (by rw [h0]; simp; omega) h1 (by simpa using h2) (by simpa using h3)]
        simp
        omega
      · rw [if_neg c2] at h0
        simp at h0
/-! ### causes come earlier -/
def kix (k : Str) : Int := if k = "request" then 0 else if k = "read" then 1 else if k = "reply" then 2 else if k = "value" then 3 else if k = "compute" then 4 else if k = "update" then 5 else if k = "write" then 6 else 7
def rk (e : Ev) : Int := 8 * e.t + kix e.k
theorem kix_in (k : Str) : 0 ≤ kix k ∧ kix k ≤ 7 := by
  unfold kix
  repeat' split
  all_goals exact ⟨by decide, by decide⟩
section
variable {p : Pb} {m : Nat} {wd ld : Int} {f : Nat}
theorem rk_lt {o e : Ev} (h1 : 1 ≤ wd) (h2 : 1 ≤ ld) (he : e ∈ evL p m wd f) (ho : o ∈ nmd p m wd ld f e) : rk o < rk e := by
  have hb := kix_in o.k
  have hb2 := kix_in e.k
  obtain ⟨t, hi⟩ : ∃ t, IsEv p m (staysL p wd f) t e := ⟨_, (evL_mem.mp he).2⟩
  have hu : ∀ b, o ∈ untL p m wd f b → o.t ≤ b := fun b h => of_decide_eq_true (List.mem_filter.mp h).2
  cases hi with
  | rq h =>
    rename_i r
    have ho' : o ∈ rqL p m wd f r t := ho
    unfold rqL at ho'
    unfold rk
    rcases List.mem_append.mp ho' with h | h
    · have := hu _ h
      simp only [] at hb2 ⊢
      omega
    · have := (nxt_lt ((ackL_mem (opL_mem ‹r ∈ opL (staysL p wd f) t›).1).mp h).2.2.2).1
      simp only [] at hb2 ⊢
      omega
  | rd h =>
    rename_i r
    have ho' : o ∈ [(⟨"request", r, t, none⟩ : Ev)] := ho
    rw [List.mem_singleton.mp ho']
    show 8 * t + kix "request" < 8 * t + kix "read"
    have a1 : kix "request" = 0 := rfl
    have a2 : kix "read" = 1 := rfl
    omega
  | rp h =>
    rename_i r
    have ho' : o ∈ [(⟨"read", r, t, none⟩ : Ev)] := ho
    rw [List.mem_singleton.mp ho']
    show 8 * t + kix "read" < 8 * t + kix "reply"
    have a1 : kix "read" = 1 := rfl
    have a2 : kix "reply" = 2 := rfl
    omega
  | va h =>
    rename_i r u
    have ho' : o ∈ vaL p m wd f r t := ho
    have hrp : o ∈ [(⟨"reply", r, t, none⟩ : Ev)] → rk o < rk ⟨"value", r, t, some u⟩ := fun h => by
      rw [List.mem_singleton.mp h]
      show 8 * t + kix "reply" < 8 * t + kix "value"
      have a1 : kix "reply" = 2 := rfl
      have a2 : kix "value" = 3 := rfl
      omega
    unfold vaL prvR at ho'
    rw [if_pos (hoL_mem h).1] at ho'
    cases c : prv (usesL p f r) t with
    | none =>
      rw [c] at ho'
      exact hrp ho'
    | some v =>
      rw [c] at ho'
      have hl := (nxt_lt ((prv_iff _ _ _ uses_pw).mp c)).1
      by_cases c2 : t ≤ v + wd
      · have ho2 : o ∈ (if t ≤ v + wd then updR m r v else [⟨"reply", r, t, none⟩]) := ho'
        rw [if_pos c2, updR_mem] at ho2
        unfold rk
        have := ho2.2.2.1
        simp only [] at hb2 ⊢
        omega
      · have ho2 : o ∈ (if t ≤ v + wd then updR m r v else [⟨"reply", r, t, none⟩]) := ho'
        rw [if_neg c2] at ho2
        exact hrp ho2
  | cp h =>
    rename_i r
    have ho' : o ∈ cpL p m wd ld f r t := ho
    unfold cpL at ho'
    rcases List.mem_append.mp ho' with h | h
    · rcases List.mem_append.mp h with h | h
      · have := hu _ h
        unfold rk
        simp only [] at hb2 ⊢
        omega
      · rw [List.mem_singleton.mp h]
        show 8 * (t - 1) + kix "compute" < 8 * t + kix "compute"
        omega
    · obtain ⟨x, _, rfl⟩ := List.mem_map.mp h
      show 8 * t + kix "value" < 8 * t + kix "compute"
      have a1 : kix "value" = 3 := rfl
      have a2 : kix "compute" = 4 := rfl
      omega
  | up h =>
    rename_i r u
    have ho' : o ∈ [(⟨"compute", u, t, none⟩ : Ev)] := ho
    rw [List.mem_singleton.mp ho']
    show 8 * t + kix "compute" < 8 * t + kix "update"
    have a1 : kix "compute" = 4 := rfl
    have a2 : kix "update" = 5 := rfl
    omega
  | wr h =>
    rename_i r
    have ho' : o ∈ updR m r t := ho
    rw [updR_mem] at ho'
    unfold rk
    rw [ho'.1, ho'.2.2.1]
    show 8 * t + kix "update" < 8 * t + kix "write"
    have a1 : kix "update" = 5 := rfl
    have a2 : kix "write" = 6 := rfl
    omega
  | ak h =>
    rename_i r
    have ho' : o ∈ [(⟨"write", r, t, none⟩ : Ev)] := ho
    rw [List.mem_singleton.mp ho']
    show 8 * t + kix "write" < 8 * t + kix "ack"
    have a1 : kix "write" = 6 := rfl
    have a2 : kix "ack" = 7 := rfl
    omega
end
theorem min_ex : ∀ l : List Ev, l ≠ [] → ∃ e ∈ l, ∀ o ∈ l, rk e ≤ rk o
  | [], h => absurd rfl h
  | [x], _ => ⟨x, by simp, fun o h => by rw [List.mem_singleton.mp h]; omega⟩
  | x :: y :: l, _ => by
    obtain ⟨e, h1, h2⟩ := min_ex (y :: l) (by simp)
    by_cases c : rk x ≤ rk e
    · exact ⟨x, by simp, fun o h => by
        rcases List.mem_cons.mp h with rfl | h
        · omega
        · have := h2 o h
          omega⟩
    · exact ⟨e, List.mem_cons_of_mem _ h1, fun o h => by
        rcases List.mem_cons.mp h with rfl | h
        · omega
        · exact h2 o h⟩
end Den

namespace Den
open PySem PySem.Spec PyProof.Rows L2
open Evl (Ex)
/-! ### audit -/
theorem eOpB_o {g : D → D → Option D} {f : ME XV} {i : Nat} {q q1 : Stt} {x y z : D} (h : f q = some (.ok (.d x), q1)) (hp : peek q1 i = some y) (hg : g x y = some z) : eOpB g f i q = some (.ok (.d z), q1) := by
  simp only [eOpB, bnd, h, hp, hg, Option.map]
theorem sSeq_bk {g1 g2 : MS} {q q1 : Stt} (h : g1 q = some (.bk q1)) : sSeq g1 g2 q = some (.bk q1) := by
  simp only [sSeq, h]
theorem loopD_bk {a : XV → Stt → Option Stt} {g : MS} {d : D} {ds : List D} {q q1 q2 : Stt} (h1 : a (.d d) q = some q1) (h2 : g q1 = some (.bk q2)) : loopD a g (d :: ds) q = some (.nx q2) := by
  simp only [loopD, h1, h2]
theorem look_const {v : D} : ∀ (s : List Ev) (x : Ev), (lookD (s.map evK) (s.map fun _ => v) (evK x)).isSome = decide (x ∈ s)
  | [], _ => rfl
  | e :: s, x => by
    show (if evK e = evK x then some v else lookD (s.map evK) (s.map fun _ => v) (evK x)).isSome = _
    by_cases h : e = x
    · rw [if_pos (by rw [h]), decide_eq_true (by simp [h])]
      rfl
    · rw [if_neg (fun h' => h (evK_inj h')), look_const s x, Bool.eq_iff_iff, decide_eq_true_eq, decide_eq_true_eq, List.mem_cons]
      exact ⟨.inr, fun h2 => h2.resolve_left (fun e => h e.symm)⟩
abbrev snD (s : List Ev) : D := .dit (s.map evK) (s.map fun _ => .bl true)
theorem din_sn {neg : Bool} {s : List Ev} {x : Ev} : gDin neg (evD x) (snD s) = some (.bl (if neg then !decide (x ∈ s) else decide (x ∈ s))) := by
  show ((keysD (evT x)).map fun k => lookD (s.map evK) (s.map fun _ => D.bl true) k).map (fun o : Option D => D.bl (if neg then !o.isSome else o.isSome)) = _
  rw [evK_ok]
  show some (D.bl (if neg then !(lookD (s.map evK) (s.map fun _ => D.bl true) (evK x)).isSome else (lookD (s.map evK) (s.map fun _ => D.bl true) (evK x)).isSome)) = _
  rw [look_const]
def fIn (s : List Ev) (d : D) : D := (gDin false d (snD s)).getD .non
theorem fIn_ev {s : List Ev} (x : Ev) : fIn s (evD x) = .bl (decide (x ∈ s)) := by
  unfold fIn
  rw [din_sn]
  rfl
theorem all_in {s : List Ev} (cs : List Ev) : gAll [.lst ((cs.map evD).map (fIn s))] = some (.bl (decide (∀ c ∈ cs, c ∈ s))) := by
  have h : (cs.map evD).map (fIn s) = cs.map fun c => .bl (decide (c ∈ s)) := by
    rw [List.map_map]
    exact List.map_congr_left fun c _ => fIn_ev c
  rw [h]
  show (allBl _).map _ = _
  rw [allBl_map]
  show some (D.bl ((cs.map fun c => decide (c ∈ s)).all id)) = _
  congr 2
  rw [Bool.eq_iff_iff]
  simp
section
variable {C : Cl} {p : Pb} {m : Nat} {wd ld : Int} {f j : Nat} {ek : List (List Key)} {ex : List D}
abbrev A8 (p : Pb) (s3 : St3) (f : Nat) (log : D) (j : Nat) (s : List Ev) (x6 x7 : Sl) (w : List WO) : Stt := ⟨[.dat (pbD p), .dat (stD s3), .dat (.int f), .dat log, .hnd j, .ot (s.map evK) (s.map fun _ => .bl true), x6, x7], w⟩
theorem put_sn {s : List Ev} {x : Ev} (h : x ∉ s) : putKs (s.map evK) (evK x) = (s ++ [x]).map evK ∧ putDs (s.map evK) (s.map fun _ => D.bl true) (evK x) (.bl true) = (s ++ [x]).map fun _ => D.bl true := by
  have hx : evK x ∉ s.map evK := fun h' => by
    obtain ⟨y, hy, e⟩ := List.mem_map.mp h'
    rw [evK_inj e] at hy
    exact h hy
  rw [putKs_new _ hx, putDs_new _ _ (by simp) hx, List.map_append, List.map_append]
  exact ⟨rfl, rfl⟩
theorem aud_loop (h : okQ p) (hm : 0 < m) (hm2 : m ≤ 20) (he : ∀ r t : Int, lookD ek ex [.inl r, .inl t] = (prvR p f r t).map .int) {log : D} : ∀ (l s : List Ev) (x6 : Sl) (w : List WO), w[j]? = some (crs C p m wd ld f ek ex) → s.Nodup → s.length + l.length ≤ 100000 →
    ∃ s' x6' w', loopD (gSet 6) (lb_audit_0 C) (l.map evD) (A8 p ((m : Int), wd, ld) f log j s x6 .un w) = some (.nx (A8 p ((m : Int), wd, ld) f log j s' x6' .un w')) ∧ s'.length = go (evL p m wd f) (cauL p m wd ld f) s l ∧ ∃ w3, w' = w ++ w3
  | [], s, x6, w, _, _, _ => ⟨s, x6, w, rfl, rfl, [], (List.append_nil _).symm⟩
  | x :: l, s, x6, w, hj, hs, hl => by
    have hgo : go (evL p m wd f) (cauL p m wd ld f) s (x :: l) = if x ∉ evL p m wd f ∨ x ∈ s then s.length else if (∀ c ∈ cauL p m wd ld f x, c ∈ s) then go (evL p m wd f) (cauL p m wd ld f) (s ++ [x]) l else s.length := rfl
    have hhas : tNotB (tOf (eMeth 2 C.Course_ "has" (G_Coursehas C) (eVar 4) (aCons (eVar 6) aNil))) (A8 p ((m : Int), wd, ld) f log j s (.dat (evD x)) .un w) = some (.ok (!decide (x ∈ evL p m wd f)), A8 p ((m : Int), wd, ld) f log j s (.dat (evD x)) .un w) :=
      tNot_ok (tOf_ok (eMeth_w rfl hj nk_has (aCons_ok rfl rfl) rfl (has_ok hj)))
    by_cases c1 : x ∈ evL p m wd f
    · rw [decide_eq_true c1] at hhas
      have hin : tOf (eOpB (gDin false) (eVar 6) 5) (A8 p ((m : Int), wd, ld) f log j s (.dat (evD x)) .un w) = some (.ok (decide (x ∈ s)), A8 p ((m : Int), wd, ld) f log j s (.dat (evD x)) .un w) := tOf_ok (eOpB_o rfl rfl din_sn)
      by_cases c2 : x ∈ s
      · rw [decide_eq_true c2] at hin
        refine ⟨s, .dat (evD x), w, loopD_bk (q1 := A8 p ((m : Int), wd, ld) f log j s (.dat (evD x)) .un w) rfl (sSeq_bk (sIf_t (tOr_f hhas hin) rfl)), ?_, [], (List.append_nil _).symm⟩
        rw [hgo, if_pos (.inr c2)]
      · rw [decide_eq_false c2] at hin
        obtain ⟨w2, hc⟩ := causes_of_ok (ld := ld) h hm hm2 he hj c1 nmd_nd
        have hj2 := crs_ext (w2 := w2) hj
        have hlc : lLc [7] (iOf (eMeth 2 C.Course_ "causes_of" (G_Coursecauses_of C) (eVar 4) (aCons (eVar 6) aNil))) (gSet 7) (ret true) (eOpB (gDin false) (eVar 7) 5) (A8 p ((m : Int), wd, ld) f log j s (.dat (evD x)) .un w) = some (.ok (((cauL p m wd ld f x).map evD).map (fIn s)), A8 p ((m : Int), wd, ld) f log j s (.dat (evD x)) .un (w ++ w2)) := by
          refine lLc_pure (fIn s) (q0 := A8 p ((m : Int), wd, ld) f log j s (.dat (evD x)) .un (w ++ w2)) (iOf_ok (eMeth_ok (q1 := A8 p ((m : Int), wd, ld) f log j s (.dat (evD x)) .un w) rfl hj nk_cof (aCons_ok rfl rfl) rfl hc) rfl) ?_ rfl fun d hd => ?_
          · rw [List.length_map]
            have h1 : (cauL p m wd ld f x).length ≤ (evL p m wd f).length := List.length_filter_le _ _
            have h2 := evL_len (wd := wd) (f := f) h hm hm2
            exact Nat.le_trans (show _ ≤ 100000 by omega) (by decide)
          · obtain ⟨o, _, rfl⟩ := List.mem_map.mp hd
            exact ⟨_, rfl, rfl, eOpB_o rfl rfl (by rw [fIn_ev]; exact din_sn)⟩
        have hall : tNotB (tOf (eCB gAll (aCons (eL (lLc [7] (iOf (eMeth 2 C.Course_ "causes_of" (G_Coursecauses_of C) (eVar 4) (aCons (eVar 6) aNil))) (gSet 7) (ret true) (eOpB (gDin false) (eVar 7) 5))) aNil))) (A8 p ((m : Int), wd, ld) f log j s (.dat (evD x)) .un w) = some (.ok (!decide (∀ c ∈ cauL p m wd ld f x, c ∈ s)), A8 p ((m : Int), wd, ld) f log j s (.dat (evD x)) .un (w ++ w2)) :=
          tNot_ok (tOf_ok (eCB1_ok (eL_ok hlc) (all_in _)))
        by_cases c3 : ∀ c ∈ cauL p m wd ld f x, c ∈ s
        · rw [decide_eq_true c3] at hall
          have hb : (s.map evK).length < big ∧ (s.map evK).Nodup := ⟨by rw [List.length_map]; exact Nat.lt_of_lt_of_le (show s.length < 100000 by simp only [List.length_cons] at hl; omega) (by decide), List.Pairwise.map _ (fun a b h e => h (evK_inj e)) hs⟩
          have hput : sPutT 5 (eVar 6) (eC (.bl true)) (A8 p ((m : Int), wd, ld) f log j s (.dat (evD x)) .un (w ++ w2)) = some (.nx (A8 p ((m : Int), wd, ld) f log j (s ++ [x]) (.dat (evD x)) .un (w ++ w2))) := by
            have := sPutT_ok (i := 5) (fk := eVar 6) (fv := eC (.bl true)) (q := A8 p ((m : Int), wd, ld) f log j s (.dat (evD x)) .un (w ++ w2)) (v := .bl true) (es := evT x) (kk := evK x) rfl rfl rfl rfl (evK_ok x) hb
            rw [(put_sn c2).1, (put_sn c2).2] at this
            exact this
          obtain ⟨s', x6', w', h1, h2, w3, h3⟩ := aud_loop h hm hm2 he (log := log) l (s ++ [x]) (.dat (evD x)) (w ++ w2) hj2 (List.nodup_append.mpr ⟨hs, List.pairwise_singleton _ _, fun a ha b hb e => c2 (by rw [← List.mem_singleton.mp hb, ← e]; exact ha)⟩) (by
            simp only [List.length_append, List.length_cons, List.length_nil] at hl ⊢
            omega)
          refine ⟨s', x6', w', loopD_to (q1 := A8 p ((m : Int), wd, ld) f log j s (.dat (evD x)) .un w) rfl (sSeq_to (sIf_f (tOr_f hhas hin) rfl) (sSeq_to (sIf_f hall rfl) hput)) h1, ?_, w2 ++ w3, by rw [h3, List.append_assoc]⟩
          rw [hgo, if_neg (by simp [c1, c2]), if_pos c3, h2]
        · rw [decide_eq_false c3] at hall
          refine ⟨s, .dat (evD x), w ++ w2, loopD_bk (q1 := A8 p ((m : Int), wd, ld) f log j s (.dat (evD x)) .un w) rfl (sSeq_to (sIf_f (tOr_f hhas hin) rfl) (sSeq_bk (sIf_t hall rfl))), ?_, w2, rfl⟩
          rw [hgo, if_neg (by simp [c1, c2]), if_neg c3]
    · rw [decide_eq_false c1] at hhas
      refine ⟨s, .dat (evD x), w, loopD_bk (q1 := A8 p ((m : Int), wd, ld) f log j s (.dat (evD x)) .un w) rfl (sSeq_bk (sIf_t (tOr_t hhas) rfl)), ?_, [], (List.append_nil _).symm⟩
      rw [hgo, if_pos (.inl c1)]
theorem audit_ok {log : List Ev} {w : List WO} (h : okQ p) (hm : 0 < m) (hm2 : m ≤ 20) (hf : f ≤ p.bs.length) (hl : log.length ≤ 100000) : ∃ w', G_audit C [.d (pbD p), .d (stD ((m : Int), wd, ld)), .d (.int f), .d (.lst (log.map evD))] w = some (.ok (.d (.int (go (evL p m wd f) (cauL p m wd ld f) [] log))), w ++ w') := by
  obtain ⟨ek, ex, he, h1⟩ := init_course (C := C) (w := w) (wd := wd) (ld := ld) h hm hm2 hf
  have hj : (w ++ [crs C p m wd ld f ek ex])[w.length]? = some (crs C p m wd ld f ek ex) := by simp
  obtain ⟨s', x6', w', h2, h3, w3, h4⟩ := aud_loop (C := C) (ld := ld) h hm hm2 he (log := .lst (log.map evD)) log [] .un (w ++ [crs C p m wd ld f ek ex]) hj .nil (by simpa using hl)
  have hnew : sAsg (eNewI 4 C.Course_ (G_Course__init C) (aCons (eVar 0) (aCons (eVar 1) (aCons (eVar 2) aNil)))) (gSet 4) (fnQ 8 [.d (pbD p), .d (stD ((m : Int), wd, ld)), .d (.int f), .d (.lst (log.map evD))] w) = some (.nx ⟨[.dat (pbD p), .dat (stD ((m : Int), wd, ld)), .dat (.int f), .dat (.lst (log.map evD)), .hnd w.length, .un, .un, .un], w ++ [crs C p m wd ld f ek ex]⟩) :=
    sAsg_ok (eNewI_ok (aCons_ok rfl (aCons_ok rfl (aCons_ok rfl rfl))) rfl h1) rfl
  have hlen : eCBV gLenT 5 (A8 p ((m : Int), wd, ld) f (.lst (log.map evD)) w.length s' x6' .un w') = some (.ok (.d (.int (go (evL p m wd f) (cauL p m wd ld f) [] log))), A8 p ((m : Int), wd, ld) f (.lst (log.map evD)) w.length s' x6' .un w') := by
    refine eCBV_ok (d := snD s') rfl ?_
    show some (D.int ((s'.map evK).length : Nat)) = _
    rw [List.length_map, h3]
  refine ⟨[crs C p m wd ld f ek ex] ++ w3, ?_⟩
  rw [← List.append_assoc, ← h4]
  exact fnG_rt (q := A8 p ((m : Int), wd, ld) f (.lst (log.map evD)) w.length s' x6' .un w') (sSeq_to hnew (sSeq_to (q1 := A8 p ((m : Int), wd, ld) f (.lst (log.map evD)) w.length [] .un .un (w ++ [crs C p m wd ld f ek ex])) rfl (sSeq_to (sFor_ok (q1 := A8 p ((m : Int), wd, ld) f (.lst (log.map evD)) w.length [] .un .un (w ++ [crs C p m wd ld f ek ex])) rfl h2) (sRet_ok hlen))))
theorem orderly_ok {log : List Ev} {w : List WO} (h : okQ p) (hm : 0 < m) (hm2 : m ≤ 20) (hf : f ≤ p.bs.length) (hl : log.length ≤ 100000) : ∃ w', G_is_orderly C [.d (pbD p), .d (stD ((m : Int), wd, ld)), .d (.int f), .d (.lst (log.map evD))] w = some (.ok (.d (.bl (decide (go (evL p m wd f) (cauL p m wd ld f) [] log = log.length)))), w ++ w') := by
  obtain ⟨w', h1⟩ := audit_ok (C := C) (w := w) (ld := ld) (wd := wd) h hm hm2 hf hl
  have hc : eCall 4 (G_audit C) (aCons (eVar 0) (aCons (eVar 1) (aCons (eVar 2) (aCons (eVar 3) aNil)))) (fnQ 4 [.d (pbD p), .d (stD ((m : Int), wd, ld)), .d (.int f), .d (.lst (log.map evD))] w) = some (.ok (.d (.int (go (evL p m wd f) (cauL p m wd ld f) [] log))), ⟨[.dat (pbD p), .dat (stD ((m : Int), wd, ld)), .dat (.int f), .dat (.lst (log.map evD))], w ++ w'⟩) :=
    eCall_ok (q1 := ⟨[.dat (pbD p), .dat (stD ((m : Int), wd, ld)), .dat (.int f), .dat (.lst (log.map evD))], w⟩) (aCons_ok rfl (aCons_ok rfl (aCons_ok rfl (aCons_ok rfl rfl)))) rfl h1
  refine ⟨w', fnG_rt (q := ⟨[.dat (pbD p), .dat (stD ((m : Int), wd, ld)), .dat (.int f), .dat (.lst (log.map evD))], w ++ w'⟩) (sRet_ok (eOp_ok hc (eCB1_ok (x := .lst (log.map evD)) rfl rfl) ?_))⟩
  show some (D.bl (decide (((go (evL p m wd f) (cauL p m wd ld f) [] log : Nat) : Int) = ((log.map evD).length : Nat)))) = _
  rw [List.length_map]
  congr 2
  rw [Bool.eq_iff_iff, decide_eq_true_eq, decide_eq_true_eq]
  omega
end
end Den

namespace Den
open PySem PySem.Spec PyProof.Rows L2
open Evl (Ex)
/-! ### the law's list of causes -/
def unEv : D → Option Ev
  | .tup [.str k, .int r, .int t] => some ⟨k, r, t, none⟩
  | .tup [.str k, .int r, .int t, .int u] => some ⟨k, r, t, some u⟩
  | _ => none
theorem unEv_ev (e : Ev) : unEv (evD e) = some e := by
  obtain ⟨k, r, t, u⟩ := e
  cases u <;> rfl
def pC (p : Pb) (wd ld : Int) (f : Nat) (e : Ev) (d : D) : Bool := match unEv d with
  | some o => isC p wd ld f o e
  | none => false
theorem pC_ev {p : Pb} {wd ld : Int} {f : Nat} {e : Ev} (o : Ev) : pC p wd ld f e (evD o) = isC p wd ld f o e := by
  unfold pC
  rw [unEv_ev]
theorem evD_inj {a b : Ev} (h : evD a = evD b) : a = b := by
  have := congrArg unEv h
  rw [unEv_ev, unEv_ev] at this
  exact Option.some.inj this
section
variable {C : Cl} {p : Pb} {m : Nat} {wd ld : Int} {f : Nat} {e : Ev} {w : List WO}
end
end Den

namespace Den
open PySem PySem.Spec PyProof.Rows L2
open Evl (Ex)
/-! ### the law's dict of causes -/
theorem look_f {g : Ev → D} {x : Ev} : ∀ L : List Ev, lookD (L.map evK) (L.map g) (evK x) = if x ∈ L then some (g x) else none
  | [] => rfl
  | e :: L => by
    show (if evK e = evK x then some (g e) else lookD (L.map evK) (L.map g) (evK x)) = _
    by_cases h : e = x
    · subst h
      rw [if_pos rfl, if_pos (by simp)]
    · rw [if_neg (fun h' => h (evK_inj h')), look_f L]
      by_cases h2 : x ∈ L
      · rw [if_pos h2, if_pos (by simp [h2])]
      · rw [if_neg h2, if_neg (by simp [h2]; exact fun e' => h e'.symm)]
def cV (p : Pb) (m : Nat) (wd ld : Int) (f : Nat) (e : Ev) : D := .lst ((cauL p m wd ld f e).map evD)
abbrev grD (p : Pb) (m : Nat) (wd ld : Int) (f : Nat) (L : List Ev) : D := .dit (L.map evK) (L.map (cV p m wd ld f))
section
variable {p : Pb} {m : Nat} {wd ld : Int} {f : Nat} {w : List WO} {L : List Ev}
theorem din_gr {neg : Bool} {x : Ev} : gDin neg (evD x) (grD p m wd ld f L) = some (.bl (if neg then !decide (x ∈ L) else decide (x ∈ L))) := by
  show ((keysD (evT x)).map fun k => lookD (L.map evK) (L.map (cV p m wd ld f)) k).map (fun o : Option D => D.bl (if neg then !o.isSome else o.isSome)) = _
  rw [evK_ok]
  show some (D.bl (if neg then !(lookD (L.map evK) (L.map (cV p m wd ld f)) (evK x)).isSome else (lookD (L.map evK) (L.map (cV p m wd ld f)) (evK x)).isSome)) = _
  rw [look_f]
  by_cases h : x ∈ L
  · rw [if_pos h, decide_eq_true h]
    rfl
  · rw [if_neg h, decide_eq_false h]
    rfl
theorem ix_gr {x : Ev} (h : x ∈ L) : ixD (grD p m wd ld f L) (evD x) = some (cV p m wd ld f x) := by
  show (keysD (evT x)).bind (fun k => lookD (L.map evK) (L.map (cV p m wd ld f)) k) = _
  rw [evK_ok]
  show lookD (L.map evK) (L.map (cV p m wd ld f)) (evK x) = _
  rw [look_f, if_pos h]
abbrev K7 (p : Pb) (m : Nat) (wd ld : Int) (f : Nat) (pre : List Ev) (x5 : Sl) (w : List WO) : Stt := ⟨[.dat (pbD p), .dat (stD ((m : Int), wd, ld)), .dat (.int f), .dat (.tup (eventsL p m wd f)), .ot (pre.map evK) (pre.map (cV p m wd ld f)), x5, .un], w⟩
theorem known_loop (h : okQ p) (hm : 0 < m) (hm2 : m ≤ 20) (hf : f ≤ p.bs.length) : ∀ (l pre : List Ev) (x5 : Sl), (∀ e ∈ l, e ∈ evL p m wd f) → (pre ++ l).Nodup → (pre ++ l).length ≤ 100000 →
    ∃ x5', loopD (gSet 5) lb_law_known_0 (l.map evD) (K7 p m wd ld f pre x5 w) = some (.nx (K7 p m wd ld f (pre ++ l) x5' w))
  | [], pre, x5, _, _, _ => ⟨x5, by rw [List.append_nil]; rfl⟩
  | e :: l, pre, x5, hL, hn, hl => by
    have he := hL e (by simp)
    have hpre : pre.Nodup := (List.nodup_append.mp hn).1
    have hx : evK e ∉ pre.map evK := fun h => by
      obtain ⟨y, hy, e'⟩ := List.mem_map.mp h
      exact (List.nodup_append.mp hn).2.2 y hy e (by simp) (evK_inj e')
    have hlen : pre.length < 100000 := by
      rw [List.length_append, List.length_cons] at hl
      omega
    have hb : (pre.map evK).length < big ∧ (pre.map evK).Nodup := ⟨by rw [List.length_map]; exact Nat.lt_of_lt_of_le hlen (by decide), List.Pairwise.map _ (fun a b h e => h (evK_inj e)) hpre⟩
    have hc : lLc [6] (iOf (eVar 3)) (gSet 6) (tOf (eCall 5 G_law_is_cause (aCons (eVar 0) (aCons (eVar 1) (aCons (eVar 2) (aCons (eVar 6) (aCons (eVar 5) aNil))))))) (eVar 6) (K7 p m wd ld f pre (.dat (evD e)) w) = some (.ok (((eventsL p m wd f).filter (pC p wd ld f e)).map fun d => d), K7 p m wd ld f pre (.dat (evD e)) w) := by
      refine lLc_flt (pC p wd ld f e) (fun d => d) (iOf_ok rfl rfl) (Nat.le_trans (ev_len h hm hm2) (by decide)) rfl fun d hd => ?_
      rw [← evL_D] at hd
      obtain ⟨o, ho, rfl⟩ := List.mem_map.mp hd
      exact ⟨_, rfl, rfl, tOf_ok (by rw [pC_ev]; exact eCall_w (aCons_ok rfl (aCons_ok rfl (aCons_ok rfl (aCons_ok rfl (aCons_ok rfl rfl))))) rfl (lcause_ok h hf ho he)), fun _ => rfl⟩
    rw [← evL_D, flt_ev pC_ev, cauL_eq hm he] at hc
    have hput : lb_law_known_0 (K7 p m wd ld f pre (.dat (evD e)) w) = some (.nx (K7 p m wd ld f (pre ++ [e]) (.dat (evD e)) w)) := by
      have := sPutT_ok (i := 4) (fk := eVar 5) (q := K7 p m wd ld f pre (.dat (evD e)) w) (v := cV p m wd ld f e) (es := evT e) (kk := evK e) (eL_ok hc) rfl rfl rfl (evK_ok e) hb
      rw [putKs_new _ hx, putDs_new _ _ (by simp) hx] at this
      have e1 : (pre ++ [e]).map evK = pre.map evK ++ [evK e] := by rw [List.map_append]; rfl
      have e2 : (pre ++ [e]).map (cV p m wd ld f) = pre.map (cV p m wd ld f) ++ [cV p m wd ld f e] := by rw [List.map_append]; rfl
      show _ = some (Fl.nx ⟨[.dat (pbD p), .dat (stD ((m : Int), wd, ld)), .dat (.int f), .dat (.tup (eventsL p m wd f)), .ot ((pre ++ [e]).map evK) ((pre ++ [e]).map (cV p m wd ld f)), .dat (evD e), .un], w⟩)
      rw [e1, e2]
      exact this
    obtain ⟨x5', ih⟩ := known_loop h hm hm2 hf l (pre ++ [e]) (.dat (evD e)) (fun o m => hL o (by simp [m])) (by simpa using hn) (by simpa using hl)
    refine ⟨x5', loopD_to (q1 := K7 p m wd ld f pre (.dat (evD e)) w) rfl hput ?_⟩
    rw [List.append_assoc] at ih
    exact ih
theorem known_ok (h : okQ p) (hm : 0 < m) (hm2 : m ≤ 20) (hf : f ≤ p.bs.length) : G_law_known [.d (pbD p), .d (stD ((m : Int), wd, ld)), .d (.int f)] w = some (.ok (.d (grD p m wd ld f (evL p m wd f))), w) := by
  obtain ⟨x5, hl⟩ := known_loop (ld := ld) (w := w) h hm hm2 hf (evL p m wd f) [] .un (fun e m => m) (by simpa using evL_nd) (by have := evL_len (wd := wd) (f := f) h hm hm2; simpa using (show _ ≤ 100000 by omega))
  rw [evL_D] at hl
  exact fnG_rt (q := ⟨[.dat (pbD p), .dat (stD ((m : Int), wd, ld)), .dat (.int f), .dat (.tup (eventsL p m wd f)), .dat (grD p m wd ld f (evL p m wd f)), x5, .un], w⟩) (sSeq_to (q1 := ⟨[.dat (pbD p), .dat (stD ((m : Int), wd, ld)), .dat (.int f), .dat (.tup (eventsL p m wd f)), .un, .un, .un], w⟩) (sAsg_ok (by exact eCall_w (aCons_ok rfl (aCons_ok rfl (aCons_ok rfl rfl))) rfl (levents_ok h hm hm2 hf)) rfl) (sSeq_to (q1 := K7 p m wd ld f [] .un w) rfl (sSeq_to (sFor_ok (q1 := K7 p m wd ld f [] .un w) (iOf_ok rfl rfl) hl) (sRet_ok rfl))))
/-! ### the law's longest orderly beginning -/
theorem cut_to {l : List Ev} {k : Nat} : cutD (l.map evD) none (some (k : Int)) = (l.take k).map evD := by
  unfold cutD
  have h0 : HT.sIx (l.map evD).length (l.map evD).length (some (k : Int)) = min k l.length := by
    have h1 : (if ((k : Int)) < 0 then ((k : Int) + ((l.map evD).length : Nat)).toNat else min (Int.toNat k) (l.map evD).length) = min k l.length := by
      rw [if_neg (by omega), List.length_map, Int.toNat_natCast]
    exact h1
  rw [h0]
  show ((l.map evD).drop 0).take (min k l.length - 0) = _
  rw [List.drop_zero, Nat.sub_zero, ← List.map_take]
  congr 1
  rcases Nat.le_total k l.length with h | h
  · rw [Nat.min_eq_left h]
  · rw [Nat.min_eq_right h, List.take_of_length_le h, List.take_of_length_le (Nat.le_refl _)]
def pNo (s : List Ev) (d : D) : Bool := match unEv d with
  | some o => !decide (o ∈ s)
  | none => false
theorem pNo_ev {s : List Ev} (o : Ev) : pNo s (evD o) = !decide (o ∈ s) := by
  unfold pNo
  rw [unEv_ev]
abbrev G4 (p : Pb) (m : Nat) (wd ld : Int) (f : Nat) (L log : List Ev) (x2 x3 : Sl) (w : List WO) : Stt := ⟨[.dat (grD p m wd ld f L), .dat (.lst (log.map evD)), x2, x3], w⟩
theorem eSl_to {l : List Ev} {k : Nat} {f1 : ME XV} {fh : ME (Option Int)} {q q1 : Stt} (h1 : f1 q = some (.ok (.d (.lst (l.map evD))), q)) (h2 : fh q = some (.ok (some (k : Int)), q)) : eSl f1 (ret none) fh q = some (.ok (.d (.lst ((l.take k).map evD))), q) := by
  unfold eSl
  rw [bnd_ok h1]
  have h3 : (ret none : ME (Option Int)) q = some (.ok none, q) := rfl
  rw [bnd_ok h3, bnd_ok h2]
  show some ((Except.ok (XV.d (.lst (cutD (l.map evD) none (some (k : Int))))) : Except Value XV), q) = _
  rw [cut_to]
theorem sFor_to {fi : ME (List D)} {a : XV → Stt → Option Stt} {g : MS} {ds : List D} {q q1 : Stt} {z : Option Fl} (h : fi q = some (.ok ds, q1)) (k : loopD a g ds q1 = z) : sFor fi a g q = z := by
  simp only [sFor, sOf, h, k]
theorem len_loop {log : List Ev} (hK : ∀ e ∈ log, okK e) (hKL : ∀ e ∈ L, okK e) (hcL : ∀ e, (cauL p m wd ld f e).length ≤ 100000 ∧ ∀ c ∈ cauL p m wd ld f e, okK c) (hb : log.length ≤ 100000) : ∀ (l pre : List Ev) (x2 : Sl), log = pre ++ l →
    (∃ x2', loopD (gSet 2) lb_law_length_0 (iota pre.length l.length) (G4 p m wd ld f L log x2 .un w) = some (.nx (G4 p m wd ld f L log x2' .un w)) ∧ go L (cauL p m wd ld f) pre l = pre.length + l.length) ∨ ∃ x2', loopD (gSet 2) lb_law_length_0 (iota pre.length l.length) (G4 p m wd ld f L log x2 .un w) = some (.rt (.d (.int (go L (cauL p m wd ld f) pre l))) (G4 p m wd ld f L log x2' .un w))
  | [], pre, x2, _ => .inl ⟨x2, rfl, rfl⟩
  | x :: l, pre, x2, hlog => by
    have hgo : go L (cauL p m wd ld f) pre (x :: l) = if x ∉ L ∨ x ∈ pre then pre.length else if (∀ c ∈ cauL p m wd ld f x, c ∈ pre) then go L (cauL p m wd ld f) (pre ++ [x]) l else pre.length := rfl
    have hx : okK x := hK x (by rw [hlog]; simp)
    have hpre : ∀ e ∈ pre, okK e := fun e m => hK e (by rw [hlog]; simp [m])
    have hix : ixD (.lst (log.map evD)) (.int (pre.length : Nat)) = some (evD x) := by
      show atI (log.map evD) ((pre.length : Nat) : Int) = _
      rw [atI_nat (by omega) (by rw [List.length_map, hlog]; simp; omega), Int.toNat_natCast, List.getElem?_map, hlog, List.getElem?_append_right (Nat.le_refl _)]
      simp
    have htk : log.take pre.length = pre := by rw [hlog]; simp
    have hsl : eSl (eVar 1) (ret none) (bnd (eVar 2) fun x => lft ((toI x).map some)) (G4 p m wd ld f L log (.dat (.int pre.length)) .un w) = some (.ok (.d (.lst (pre.map evD))), G4 p m wd ld f L log (.dat (.int pre.length)) .un w) := by
      have := eSl_to (l := log) (k := pre.length) (f1 := eVar 1) (fh := bnd (eVar 2) fun x => lft ((toI x).map some)) (q := G4 p m wd ld f L log (.dat (.int pre.length)) .un w) (q1 := G4 p m wd ld f L log (.dat (.int pre.length)) .un w) rfl rfl
      rw [htk] at this
      exact this
    have hc1 : tOrB (tOf (eOp (gDin true) (eIx (eVar 1) (eVar 2)) (eVar 0))) (tOf (eOp (gInD false) (eIx (eVar 1) (eVar 2)) (eSl (eVar 1) (ret none) (bnd (eVar 2) fun x => lft ((toI x).map some))))) (G4 p m wd ld f L log (.dat (.int pre.length)) .un w) = some (.ok (decide (x ∉ L ∨ x ∈ pre)), G4 p m wd ld f L log (.dat (.int pre.length)) .un w) := by
      have a1 : tOf (eOp (gDin true) (eIx (eVar 1) (eVar 2)) (eVar 0)) (G4 p m wd ld f L log (.dat (.int pre.length)) .un w) = some (.ok (!decide (x ∈ L)), G4 p m wd ld f L log (.dat (.int pre.length)) .un w) := tOf_ok (eOp_ok (eIx_d rfl rfl hix) rfl din_gr)
      have a2 : tOf (eOp (gInD false) (eIx (eVar 1) (eVar 2)) (eSl (eVar 1) (ret none) (bnd (eVar 2) fun x => lft ((toI x).map some)))) (G4 p m wd ld f L log (.dat (.int pre.length)) .un w) = some (.ok (decide (x ∈ pre)), G4 p m wd ld f L log (.dat (.int pre.length)) .un w) := tOf_ok (eOp_ok (eIx_d rfl rfl hix) hsl (in_ev hx hpre))
      by_cases c : x ∈ L
      · rw [decide_eq_true c] at a1
        rw [tOr_f a1 a2]
        congr 3
        rw [Bool.eq_iff_iff]
        simp [c]
      · rw [decide_eq_false c] at a1
        rw [tOr_t a1]
        congr 3
        rw [Bool.eq_iff_iff]
        simp [c]
    by_cases c1 : x ∉ L ∨ x ∈ pre
    · rw [decide_eq_true c1] at hc1
      refine .inr ⟨.dat (.int pre.length), ?_⟩
      rw [hgo, if_pos c1]
      show loopD (gSet 2) lb_law_length_0 (.int pre.length :: iota (pre.length + 1) l.length) _ = _
      have hr : lb_law_length_0 (G4 p m wd ld f L log (.dat (.int pre.length)) .un w) = some (.rt (.d (.int pre.length)) (G4 p m wd ld f L log (.dat (.int pre.length)) .un w)) := sSeq_rt (sIf_t hc1 (sRet_ok rfl))
      have hs : gSet 2 (.d (.int pre.length)) (G4 p m wd ld f L log x2 .un w) = some (G4 p m wd ld f L log (.dat (.int pre.length)) .un w) := rfl
      simp only [loopD, hs, hr]
    · rw [decide_eq_false c1] at hc1
      have hxL : x ∈ L := by
        rcases Classical.em (x ∈ L) with h | h
        · exact h
        · exact absurd (.inl h) c1
      have hc2 : lLc [3] (iOf (eIx (eVar 0) (eIx (eVar 1) (eVar 2)))) (gSet 3) (tOf (eOp (gInD true) (eVar 3) (eSl (eVar 1) (ret none) (bnd (eVar 2) fun x => lft ((toI x).map some))))) (eVar 3) (G4 p m wd ld f L log (.dat (.int pre.length)) .un w) = some (.ok ((((cauL p m wd ld f x).map evD).filter (pNo pre)).map fun d => d), G4 p m wd ld f L log (.dat (.int pre.length)) .un w) := by
        refine lLc_flt (pNo pre) (fun d => d) (iOf_ok (eIx_d (z := cV p m wd ld f x) rfl (eIx_d rfl rfl hix) (ix_gr hxL)) rfl) (by rw [List.length_map]; exact Nat.le_trans (hcL x).1 (by decide)) rfl fun d hd => ?_
        obtain ⟨o, ho, rfl⟩ := List.mem_map.mp hd
        have hsl' : eSl (eVar 1) (ret none) (bnd (eVar 2) fun x => lft ((toI x).map some)) (G4 p m wd ld f L log (.dat (.int pre.length)) (.dat (evD o)) w) = some (.ok (.d (.lst (pre.map evD))), G4 p m wd ld f L log (.dat (.int pre.length)) (.dat (evD o)) w) := by
          have := eSl_to (l := log) (k := pre.length) (f1 := eVar 1) (fh := bnd (eVar 2) fun x => lft ((toI x).map some)) (q := G4 p m wd ld f L log (.dat (.int pre.length)) (.dat (evD o)) w) (q1 := G4 p m wd ld f L log (.dat (.int pre.length)) (.dat (evD o)) w) rfl rfl
          rw [htk] at this
          exact this
        exact ⟨G4 p m wd ld f L log (.dat (.int pre.length)) (.dat (evD o)) w, rfl, rfl, tOf_ok (by rw [pNo_ev]; exact eOp_ok rfl hsl' (in_ev ((hcL x).2 o ho) hpre)), fun _ => rfl⟩
      rw [flt_ev pNo_ev] at hc2
      have hpos : tOf (eOp (gC fun i j => decide (j < i)) (eCB gLen (aCons (eL (lLc [3] (iOf (eIx (eVar 0) (eIx (eVar 1) (eVar 2)))) (gSet 3) (tOf (eOp (gInD true) (eVar 3) (eSl (eVar 1) (ret none) (bnd (eVar 2) fun x => lft ((toI x).map some))))) (eVar 3))) aNil)) (eC (.int 0))) (G4 p m wd ld f L log (.dat (.int pre.length)) .un w) = some (.ok (!decide (∀ c ∈ cauL p m wd ld f x, c ∈ pre)), G4 p m wd ld f L log (.dat (.int pre.length)) .un w) := by
        refine tOf_ok (eOp_ok (eCB1_ok (eL_ok hc2) rfl) rfl ?_)
        show some (D.bl (decide ((0 : Int) < ((((cauL p m wd ld f x).filter fun o => !decide (o ∈ pre)).map evD).length : Nat)))) = _
        congr 2
        rw [List.length_map, Bool.eq_iff_iff, decide_eq_true_eq, Bool.not_eq_true', decide_eq_false_iff_not]
        constructor
        · intro h hall
          have : ((cauL p m wd ld f x).filter fun o => !decide (o ∈ pre)) = [] := List.filter_eq_nil_iff.mpr fun c hc => by simp [hall c hc]
          rw [this] at h
          exact absurd h (by decide)
        · intro h
          rcases Nat.eq_zero_or_pos ((cauL p m wd ld f x).filter fun o => !decide (o ∈ pre)).length with h0 | h0
          · exfalso
            refine h fun c hc => ?_
            have h1 := List.filter_eq_nil_iff.mp (List.length_eq_zero_iff.mp h0) c hc
            simpa using h1
          · omega
      by_cases c2 : ∀ c ∈ cauL p m wd ld f x, c ∈ pre
      · rw [decide_eq_true c2] at hpos
        have hnx : lb_law_length_0 (G4 p m wd ld f L log (.dat (.int pre.length)) .un w) = some (.nx (G4 p m wd ld f L log (.dat (.int pre.length)) .un w)) := sSeq_to (sIf_f hc1 rfl) (sIf_f hpos rfl)
        have ih := len_loop hK hKL hcL hb l (pre ++ [x]) (.dat (.int pre.length)) (by rw [hlog]; simp)
        rw [hgo, if_neg c1, if_pos c2]
        have e1 : (pre ++ [x]).length = pre.length + 1 := by simp
        rw [e1] at ih
        rcases ih with ⟨x2', h1, h2⟩ | ⟨x2', h1⟩
        · exact .inl ⟨x2', loopD_to (d := .int pre.length) (q1 := G4 p m wd ld f L log (.dat (.int pre.length)) .un w) rfl hnx h1, by rw [h2, List.length_cons]; omega⟩
        · exact .inr ⟨x2', loopD_to (d := .int pre.length) (q1 := G4 p m wd ld f L log (.dat (.int pre.length)) .un w) rfl hnx h1⟩
      · rw [decide_eq_false c2] at hpos
        refine .inr ⟨.dat (.int pre.length), ?_⟩
        rw [hgo, if_neg c1, if_neg c2]
        show loopD (gSet 2) lb_law_length_0 (.int pre.length :: iota (pre.length + 1) l.length) _ = _
        have hr : lb_law_length_0 (G4 p m wd ld f L log (.dat (.int pre.length)) .un w) = some (.rt (.d (.int pre.length)) (G4 p m wd ld f L log (.dat (.int pre.length)) .un w)) := sSeq_to (sIf_f hc1 rfl) (sIf_t hpos (sRet_ok rfl))
        have hs : gSet 2 (.d (.int pre.length)) (G4 p m wd ld f L log x2 .un w) = some (G4 p m wd ld f L log (.dat (.int pre.length)) .un w) := rfl
        simp only [loopD, hs, hr]
theorem length_ok {log : List Ev} (hK : ∀ e ∈ log, okK e) (hKL : ∀ e ∈ L, okK e) (hcL : ∀ e, (cauL p m wd ld f e).length ≤ 100000 ∧ ∀ c ∈ cauL p m wd ld f e, okK c) (hb : log.length ≤ 100000) : G_law_length [.d (grD p m wd ld f L), .d (.lst (log.map evD))] w = some (.ok (.d (.int (go L (cauL p m wd ld f) [] log))), w) := by
  have hit : (bnd (aCons (eCB gLen (aCons (eVar 1) aNil)) aNil) fun xs => lft (rng1 xs)) (G4 p m wd ld f L log .un .un w) = some (.ok (iota 0 log.length), G4 p m wd ld f L log .un .un w) := by
    have := rng1_len (e := eCB gLen (aCons (eVar 1) aNil)) (q := G4 p m wd ld f L log .un .un w) (q1 := G4 p m wd ld f L log .un .un w) (n := log.length) (eCB1_ok (x := .lst (log.map evD)) rfl (show some (D.int ((log.map evD).length : Nat)) = _ by rw [List.length_map])) hb
    rw [← iota_rg] at this
    exact this
  rcases len_loop (w := w) hK hKL hcL hb log [] .un rfl with ⟨x2', h1, h2⟩ | ⟨x2', h1⟩
  · refine fnG_rt (q := G4 p m wd ld f L log x2' .un w) (sSeq_to (sFor_ok hit h1) (sRet_ok (eCB1_ok (x := .lst (log.map evD)) rfl ?_)))
    show some (D.int ((log.map evD).length : Nat)) = _
    rw [List.length_map, h2]
    simp
  · exact fnG_rt (q := G4 p m wd ld f L log x2' .un w) (sSeq_rt (sFor_to hit h1))
end
end Den

namespace Den
open PySem PySem.Spec PyProof.Rows L2
open Evl (Ex)
/-! ### the law's drawn order -/
theorem keys_ev (L : List Ev) : keysTup (L.map evK) = L.map evD := by
  unfold keysTup
  rw [List.map_map]
  refine List.map_congr_left fun e _ => ?_
  obtain ⟨k, r, t, u⟩ := e
  cases u <;> rfl
def rdy (cs : Ev → List Ev) (s : List Ev) (e : Ev) : Bool := decide (((cs e).filter fun o => !decide (o ∈ s)).length = 0)
def pRdy (cs : Ev → List Ev) (s : List Ev) (d : D) : Bool := match unEv d with
  | some e => rdy cs s e
  | none => false
theorem pRdy_ev {cs : Ev → List Ev} {s : List Ev} (e : Ev) : pRdy cs s (evD e) = rdy cs s e := by
  unfold pRdy
  rw [unEv_ev]
def pNe (x : Ev) (d : D) : Bool := match unEv d with
  | some e => !decide (e = x)
  | none => false
theorem pNe_ev {x : Ev} (e : Ev) : pNe x (evD e) = !decide (e = x) := by
  unfold pNe
  rw [unEv_ev]
theorem rdy_iff {cs : Ev → List Ev} {s : List Ev} {e : Ev} : rdy cs s e = true ↔ ∀ c ∈ cs e, c ∈ s := by
  unfold rdy
  rw [decide_eq_true_eq, List.length_eq_zero_iff, List.filter_eq_nil_iff]
  simp
section
variable {p : Pb} {m : Nat} {wd ld : Int} {f : Nat} {dg : List Int}
abbrev M9 (g : D) (left done : List Ev) (x4 x5 x6 : Sl) (w : List WO) : Stt := ⟨[.hnd 1, .dat g, .dat (.lst (left.map evD)), .ol (done.map evD), x4, x5, x6, .un, .un], w⟩
theorem bk5 {g : D} {left done : List Ev} {x4 x5 x6 : Sl} {w : List WO} (h5 : keepS (some x5) = x5) : backQ (M9 g left done x4 x5 x6 w) (wipeQ (M9 g left done x4 x5 x6 w) [5]) [5] = M9 g left done x4 x5 x6 w := back_id fun i hi y e => by
  have hi' : i = 5 := by simpa using hi
  subst hi'
  have e' : some x5 = some y := e
  cases e'
  exact h5
theorem mix_step {left done : List Ev} {x4 x5 x6 : Sl} {pl : Int} {a : Int} (h : okQ p) (hm : 0 < m) (hm2 : m ≤ 20) (h1 : 1 ≤ wd) (h2 : 1 ≤ ld) (hd : dg ≠ []) (hne : left ≠ []) (hleft : left = (evL p m wd f).filter fun e => !decide (e ∈ done)) (hnd : done.Nodup) (hsub : ∀ e ∈ done, e ∈ evL p m wd f) (hlen : done.length + left.length ≤ 60000) (h5 : keepS (some x5) = x5) :
    ∃ x x6', x ∈ left ∧ (∀ c ∈ cauL p m wd ld f x, c ∈ done) ∧ lb_law_mixed_0 (M9 (grD p m wd ld f (evL p m wd f)) left done (.dat (.int a)) x5 x6 (wS dg pl)) = some (.nx (M9 (grD p m wd ld f (evL p m wd f)) (left.filter fun e => !decide (e = x)) (done ++ [x]) (.dat (.int a)) (.dat (evD x)) x6' (wS dg (pl + 1)))) := by
  have hlm : ∀ e ∈ left, e ∈ evL p m wd f := fun e he => by
    rw [hleft] at he
    exact (List.mem_filter.mp he).1
  have hKd : ∀ e ∈ done, okK e := fun e m => evL_str (hsub e m)
  have hready : eL (lLc [5] (iOf (eVar 2)) (gSet 5) (tOf (eOp gEq (eCB gLen (aCons (eL (lLc [8] (iOf (eIx (eVar 1) (eVar 5))) (gSet 8) (tOf (eOpB (gInD true) (eVar 8) 3)) (eVar 8))) aNil)) (eC (.int 0)))) (eVar 5)) (M9 (grD p m wd ld f (evL p m wd f)) left done (.dat (.int a)) x5 x6 (wS dg pl)) = some (.ok (.d (.lst ((left.filter (rdy (cauL p m wd ld f) done)).map evD))), M9 (grD p m wd ld f (evL p m wd f)) left done (.dat (.int a)) x5 x6 (wS dg pl)) := by
    have hc : lLc [5] (iOf (eVar 2)) (gSet 5) (tOf (eOp gEq (eCB gLen (aCons (eL (lLc [8] (iOf (eIx (eVar 1) (eVar 5))) (gSet 8) (tOf (eOpB (gInD true) (eVar 8) 3)) (eVar 8))) aNil)) (eC (.int 0)))) (eVar 5) (M9 (grD p m wd ld f (evL p m wd f)) left done (.dat (.int a)) x5 x6 (wS dg pl)) = some (.ok (((left.map evD).filter (pRdy (cauL p m wd ld f) done)).map fun d => d), M9 (grD p m wd ld f (evL p m wd f)) left done (.dat (.int a)) x5 x6 (wS dg pl)) := by
      refine lLc_flt (pRdy (cauL p m wd ld f) done) (fun d => d) (iOf_ok rfl rfl) (by rw [List.length_map]; exact Nat.le_trans (show _ ≤ 100000 by omega) (by decide)) (bk5 h5) fun d hd' => ?_
      obtain ⟨e, he, rfl⟩ := List.mem_map.mp hd'
      have heL := hlm e he
      refine ⟨M9 (grD p m wd ld f (evL p m wd f)) left done (.dat (.int a)) (.dat (evD e)) x6 (wS dg pl), rfl, rfl, ?_, fun _ => rfl⟩
      have hin : lLc [8] (iOf (eIx (eVar 1) (eVar 5))) (gSet 8) (tOf (eOpB (gInD true) (eVar 8) 3)) (eVar 8) (M9 (grD p m wd ld f (evL p m wd f)) left done (.dat (.int a)) (.dat (evD e)) x6 (wS dg pl)) = some (.ok ((((cauL p m wd ld f e).map evD).filter (pNo done)).map fun d => d), M9 (grD p m wd ld f (evL p m wd f)) left done (.dat (.int a)) (.dat (evD e)) x6 (wS dg pl)) := by
        refine lLc_flt (pNo done) (fun d => d) (iOf_ok (eIx_d (z := cV p m wd ld f e) rfl rfl (ix_gr heL)) rfl) ?_ rfl fun d hd2 => ?_
        · rw [List.length_map]
          have a1 : (cauL p m wd ld f e).length ≤ (evL p m wd f).length := List.length_filter_le _ _
          have a2 := evL_len (wd := wd) (f := f) h hm hm2
          exact Nat.le_trans (show _ ≤ 100000 by omega) (by decide)
        · obtain ⟨o, ho, rfl⟩ := List.mem_map.mp hd2
          exact ⟨_, rfl, rfl, tOf_ok (by rw [pNo_ev]; exact eOpB_o rfl rfl (in_ev (evL_str (List.mem_filter.mp ho).1) hKd)), fun _ => rfl⟩
      rw [flt_ev pNo_ev] at hin
      rw [pRdy_ev]
      refine tOf_ok (eOp_ok (eCB1_ok (eL_ok hin) rfl) rfl ?_)
      show some (D.bl (decide ((((((cauL p m wd ld f e).filter fun o => !decide (o ∈ done)).map evD).length : Nat) : Int) = 0))) = some (D.bl (decide (((cauL p m wd ld f e).filter fun o => !decide (o ∈ done)).length = 0)))
      rw [List.length_map]
      congr 2
      rw [Bool.eq_iff_iff, decide_eq_true_eq, decide_eq_true_eq]
      omega
    rw [flt_ev pRdy_ev] at hc
    exact eL_ok hc
  obtain ⟨R, hR⟩ : ∃ R, R = left.filter (rdy (cauL p m wd ld f) done) := ⟨_, rfl⟩
  have hRne : 0 < R.length := by
    obtain ⟨e, he, hmin⟩ := min_ex left hne
    have hmem : e ∈ R := by
      rw [hR, List.mem_filter, rdy_iff]
      refine ⟨he, fun c hc => ?_⟩
      have hc' := List.mem_filter.mp hc
      have hlt := rk_lt h1 h2 (hlm e he) (of_decide_eq_true hc'.2)
      rcases Classical.em (c ∈ done) with hcd | hcd
      · exact hcd
      · have : c ∈ left := by
          rw [hleft, List.mem_filter]
          exact ⟨hc'.1, by simp [hcd]⟩
        have := hmin c this
        omega
    exact List.length_pos_of_mem hmem
  rw [← hR] at hready
  obtain ⟨v, v0, v1, hv⟩ := eNext (fa := aCons (eVar 0) (aCons (eC (.int 60)) aNil)) (q := M9 (grD p m wd ld f (evL p m wd f)) left done (.dat (.int a)) x5 (.dat (.lst (R.map evD))) (wS dg pl)) (pl := pl) (many := 60) hd (by decide) (aCons_ok rfl (aCons_ok rfl rfl)) rfl
  have hmod0 := Int.emod_nonneg v (b := (R.length : Int)) (by omega)
  have hmod1 := Int.emod_lt_of_pos v (b := (R.length : Int)) (by omega)
  obtain ⟨k, hk⟩ : ∃ k : Nat, v % (R.length : Int) = k := ⟨(v % (R.length : Int)).toNat, by omega⟩
  have hkl : k < R.length := by omega
  have hxR : R[k] ∈ R := List.getElem_mem hkl
  have hRm : ∀ y ∈ R, y ∈ left ∧ rdy (cauL p m wd ld f) done y = true := fun y hy => by
    rw [hR] at hy
    exact List.mem_filter.mp hy
  have hxR2 := hRm _ hxR
  have hix : ixD (.lst (R.map evD)) (.int (k : Int)) = some (evD R[k]) := by
    show atI (R.map evD) (k : Int) = _
    rw [atI_nat (by omega) (by rw [List.length_map]; omega), Int.toNat_natCast, List.getElem?_map, List.getElem?_eq_getElem hkl]
    rfl
  have hidx : eOp gMod (eCall 2 G_law_next (aCons (eVar 0) (aCons (eC (.int 60)) aNil))) (eCB gLen (aCons (eVar 6) aNil)) (M9 (grD p m wd ld f (evL p m wd f)) left done (.dat (.int a)) x5 (.dat (.lst (R.map evD))) (wS dg pl)) = some (.ok (.d (.int k)), M9 (grD p m wd ld f (evL p m wd f)) left done (.dat (.int a)) x5 (.dat (.lst (R.map evD))) (wS dg (pl + 1))) := by
    refine eOp_ok hv (eCB1_ok (x := .lst (R.map evD)) (z := .int (R.length : Nat)) rfl (show some (D.int ((R.map evD).length : Nat)) = _ by rw [List.length_map])) ?_
    rw [gMod_ok (by omega), hk]
  have hflt : lLc [7] (iOf (eVar 2)) (gSet 7) (tOf (eOp gNe (eVar 7) (eVar 5))) (eVar 7) (M9 (grD p m wd ld f (evL p m wd f)) left (done ++ [R[k]]) (.dat (.int a)) (.dat (evD R[k])) (.dat (.lst (R.map evD))) (wS dg (pl + 1))) = some (.ok (((left.map evD).filter (pNe R[k])).map fun d => d), M9 (grD p m wd ld f (evL p m wd f)) left (done ++ [R[k]]) (.dat (.int a)) (.dat (evD R[k])) (.dat (.lst (R.map evD))) (wS dg (pl + 1))) := by
    refine lLc_flt (pNe R[k]) (fun d => d) (iOf_ok rfl rfl) (by rw [List.length_map]; exact Nat.le_trans (show _ ≤ 100000 by omega) (by decide)) rfl fun d hd' => ?_
    obtain ⟨e, he, rfl⟩ := List.mem_map.mp hd'
    exact ⟨_, rfl, rfl, tOf_ok (eOp_ok rfl rfl (by rw [pNe_ev]; exact ne_ev (evL_str (hlm e he)) (evL_str (hlm _ hxR2.1)))), fun _ => rfl⟩
  rw [flt_ev pNe_ev] at hflt
  have happ : sDrop (eM1V gApp 3 (eVar 5)) (M9 (grD p m wd ld f (evL p m wd f)) left done (.dat (.int a)) (.dat (evD R[k])) (.dat (.lst (R.map evD))) (wS dg (pl + 1))) = some (.nx (M9 (grD p m wd ld f (evL p m wd f)) left (done ++ [R[k]]) (.dat (.int a)) (.dat (evD R[k])) (.dat (.lst (R.map evD))) (wS dg (pl + 1)))) := by
    have := sDrop_ok (eM1V_ok (g := gApp) (i := 3) (f := eVar 5) (q := M9 (grD p m wd ld f (evL p m wd f)) left done (.dat (.int a)) (.dat (evD R[k])) (.dat (.lst (R.map evD))) (wS dg (pl + 1))) (q1 := M9 (grD p m wd ld f (evL p m wd f)) left done (.dat (.int a)) (.dat (evD R[k])) (.dat (.lst (R.map evD))) (wS dg (pl + 1))) (d0 := done.map evD) (ds := done.map evD) (y := .non) (x := evD R[k]) rfl rfl rfl (gApp_ok (by rw [List.length_map]; exact Nat.lt_of_lt_of_le (show done.length < 100000 by omega) (by decide))))
    have e1 : (done ++ [R[k]]).map evD = done.map evD ++ [evD R[k]] := by rw [List.map_append]; rfl
    show _ = some (Fl.nx ⟨[.hnd 1, .dat (grD p m wd ld f (evL p m wd f)), .dat (.lst (left.map evD)), .ol ((done ++ [R[k]]).map evD), .dat (.int a), .dat (evD R[k]), .dat (.lst (R.map evD)), .un, .un], wS dg (pl + 1)⟩)
    rw [e1]
    exact this
  refine ⟨R[k], .dat (.lst (R.map evD)), hxR2.1, rdy_iff.mp hxR2.2, sSeq_to (q1 := M9 (grD p m wd ld f (evL p m wd f)) left done (.dat (.int a)) x5 (.dat (.lst (R.map evD))) (wS dg pl)) (sAsg_ok hready rfl) (sSeq_to (q1 := M9 (grD p m wd ld f (evL p m wd f)) left done (.dat (.int a)) (.dat (evD R[k])) (.dat (.lst (R.map evD))) (wS dg (pl + 1))) (sAsg_ok (eIx_d rfl hidx hix) rfl) (sSeq_to happ (sAsg_ok (eL_ok hflt) rfl)))⟩
theorem mix_loop (h : okQ p) (hm : 0 < m) (hm2 : m ≤ 20) (h1 : 1 ≤ wd) (h2 : 1 ≤ ld) (hd : dg ≠ []) : ∀ (n : Nat) (a : Int) (left done : List Ev) (x4 x5 x6 : Sl) (pl : Int), left.length = n → (left = (evL p m wd f).filter fun e => !decide (e ∈ done)) → done.Nodup → (∀ e ∈ done, e ∈ evL p m wd f) → done.length + left.length ≤ 60000 → go (evL p m wd f) (cauL p m wd ld f) [] done = done.length → keepS (some x5) = x5 →
    ∃ left' done' x4' x5' x6' pl', loopD (gSet 4) lb_law_mixed_0 (iota a n) (M9 (grD p m wd ld f (evL p m wd f)) left done x4 x5 x6 (wS dg pl)) = some (.nx (M9 (grD p m wd ld f (evL p m wd f)) left' done' x4' x5' x6' (wS dg pl'))) ∧ (∀ e ∈ done', e ∈ evL p m wd f) ∧ done'.length = done.length + n ∧ go (evL p m wd f) (cauL p m wd ld f) [] done' = done'.length
  | 0, a, left, done, x4, x5, x6, pl, _, _, _, hs, _, hg, _ => ⟨left, done, x4, x5, x6, pl, rfl, hs, rfl, hg⟩
  | n + 1, a, left, done, x4, x5, x6, pl, hn, hl, hnd, hs, hb, hg, h5 => by
    obtain ⟨x, x6', g1, g2, g3⟩ := mix_step (x4 := x4) (x6 := x6) (pl := pl) (a := a) h hm hm2 h1 h2 hd (by intro e; rw [e] at hn; cases hn) hl hnd hs hb h5
    have gx : x ∈ evL p m wd f ∧ x ∉ done := by
      rw [hl] at g1
      have := List.mem_filter.mp g1
      exact ⟨this.1, by simpa using this.2⟩
    have hnl : left.Nodup := by
      rw [hl]
      exact evL_nd.filter _
    have hlen : (left.filter fun e => !decide (e = x)).length = n := by
      have e1 : (left.filter fun e => !decide (e = x)) = left.erase x := by
        rw [hnl.erase_eq_filter]
        refine List.filter_congr fun e _ => ?_
        rw [Bool.eq_iff_iff]
        simp
      rw [e1, List.length_erase_of_mem g1, hn]
      rfl
    have hl' : (left.filter fun e => !decide (e = x)) = (evL p m wd f).filter fun e => !decide (e ∈ done ++ [x]) := by
      rw [hl, List.filter_filter]
      refine List.filter_congr fun e _ => ?_
      rw [Bool.eq_iff_iff]
      simp [and_comm]
    obtain ⟨left', done', x4', x5', x6'', pl', e1, e2, e3, e4⟩ := mix_loop h hm hm2 h1 h2 hd n (a + 1) (left.filter fun e => !decide (e = x)) (done ++ [x]) (.dat (.int a)) (.dat (evD x)) x6' (pl + 1) hlen hl' (List.nodup_append.mpr ⟨hnd, List.pairwise_singleton _ _, fun a ha b hb e => gx.2 (by rw [← List.mem_singleton.mp hb, ← e]; exact ha)⟩) (fun e he => by
        rcases List.mem_append.mp he with he | he
        · exact hs e he
        · rw [List.mem_singleton.mp he]
          exact gx.1) (by simp only [List.length_append, List.length_cons, List.length_nil]; omega) (by
        have := go_snoc (L := evL p m wd f) (cs := cauL p m wd ld f) (y := x) done [] (by rw [hg]; simp) gx.1 (by simpa using gx.2) (by simpa using g2)
        rw [this]
        simp) rfl
    exact ⟨left', done', x4', x5', x6'', pl', loopD_to (d := .int a) (q1 := M9 (grD p m wd ld f (evL p m wd f)) left done (.dat (.int a)) x5 x6 (wS dg pl)) rfl g3 e1, e2, by rw [e3]; simp; omega, e4⟩
theorem mixed_ok {pl : Int} (h : okQ p) (hm : 0 < m) (hm2 : m ≤ 20) (h1 : 1 ≤ wd) (h2 : 1 ≤ ld) (hd : dg ≠ []) : ∃ (log : List Ev) (pl' : Int), (∀ e ∈ log, e ∈ evL p m wd f) ∧ log.length = (evL p m wd f).length ∧ go (evL p m wd f) (cauL p m wd ld f) [] log = log.length ∧ G_law_mixed [.h 1, .d (grD p m wd ld f (evL p m wd f))] (wS dg pl) = some (.ok (.d (.lst (log.map evD))), wS dg pl') := by
  have hlen := evL_len (wd := wd) (f := f) h hm hm2
  obtain ⟨left', log, x4, x5, x6, pl', g1, g2, g3, g4⟩ := mix_loop (ld := ld) (pl := pl) h hm hm2 h1 h2 hd (evL p m wd f).length 0 (evL p m wd f) [] .un .un .un rfl (List.filter_eq_self.mpr (fun e _ => by simp)).symm .nil (fun e he => by cases he) (by simpa using hlen) rfl rfl
  refine ⟨log, pl', g2, by simpa using g3, g4, ?_⟩
  have hkeys : eL (lKeys (eVar 1)) (fnQ 9 [.h 1, .d (grD p m wd ld f (evL p m wd f))] (wS dg pl)) = some (.ok (.d (.lst ((evL p m wd f).map evD))), fnQ 9 [.h 1, .d (grD p m wd ld f (evL p m wd f))] (wS dg pl)) := by
    refine eL_ok ?_
    show some ((Except.ok (keysTup ((evL p m wd f).map evK)) : Except Value (List D)), _) = _
    rw [keys_ev]
  have hit : (bnd (aCons (eCB gLen (aCons (eVar 2) aNil)) aNil) fun xs => lft (rng1 xs)) (M9 (grD p m wd ld f (evL p m wd f)) (evL p m wd f) [] .un .un .un (wS dg pl)) = some (.ok (iota 0 (evL p m wd f).length), M9 (grD p m wd ld f (evL p m wd f)) (evL p m wd f) [] .un .un .un (wS dg pl)) := by
    have := rng1_len (e := eCB gLen (aCons (eVar 2) aNil)) (q := M9 (grD p m wd ld f (evL p m wd f)) (evL p m wd f) [] .un .un .un (wS dg pl)) (q1 := M9 (grD p m wd ld f (evL p m wd f)) (evL p m wd f) [] .un .un .un (wS dg pl)) (n := (evL p m wd f).length) (eCB1_ok (x := .lst ((evL p m wd f).map evD)) rfl (show some (D.int (((evL p m wd f).map evD).length : Nat)) = _ by rw [List.length_map])) (by omega)
    rw [← iota_rg] at this
    exact this
  exact fnG_rt (q := ⟨[.hnd 1, .dat (grD p m wd ld f (evL p m wd f)), .dat (.lst (left'.map evD)), .dat (.lst (log.map evD)), x4, x5, x6, .un, .un], wS dg pl'⟩) (sSeq_to (q1 := ⟨[.hnd 1, .dat (grD p m wd ld f (evL p m wd f)), .dat (.lst ((evL p m wd f).map evD)), .un, .un, .un, .un, .un, .un], wS dg pl⟩) (sAsg_ok hkeys rfl) (sSeq_to (q1 := M9 (grD p m wd ld f (evL p m wd f)) (evL p m wd f) [] .un .un .un (wS dg pl)) rfl (sSeq_to (sFor_ok hit g1) (sRet_ok rfl))))
end
end Den

namespace Den
open PySem PySem.Spec PyProof.Rows L2
open Evl (Ex)
/-! ### tools for the law -/
theorem isi_bb {b : Bool} : gIsi [.bl b, .ty "bool"] = some (.bl true) := isi_of (a := "bool") rfl (by decide +kernel)
theorem same_bl {n : Nat} {b : Bool} : Same (n + 1) (.bl b) := fun w => by
  have hq : gEq (.bl b) (.bl b) = some (.bl true) := by
    show some (D.bl (decide (b = b))) = _
    simp
  exact fnG_rt (q := ⟨[.dat (.bl b), .dat (.bl b), .un], w⟩) (sSeq_to (sIf_f (tOf_ok (eOp_ok rfl rfl rfl)) rfl) (sSeq_rt (sIf_t (tOf_ok (eCB2_ok rfl rfl isi_bb)) (sRet_ok (ifb_t (tOf_ok (eCB2_ok rfl rfl isi_bb)) (eOp_ok (q1 := ⟨[.dat (.bl b), .dat (.bl b), .un], w⟩) (x := .bl b) (y := .bl b) rfl rfl hq))))))
theorem next2_ok {dg : List Int} {pl many : Int} {w2 : List WO} (hd : dg ≠ []) (hm : 0 < many) : ∃ v, 0 ≤ v ∧ v < many ∧ G_law_next [.h 1, .d (.int many)] (wS dg pl ++ w2) = some (.ok (.d (.int v)), wS dg (pl + 1) ++ w2) := by
  have hl : 0 < dg.length := List.length_pos_iff.mpr hd
  have hp : (0 : Int) < (il dg).length := by rw [il_len]; omega
  have h0 : 0 ≤ pl % ((il dg).length : Int) := Int.emod_nonneg _ (by omega)
  have h1 : pl % ((il dg).length : Int) < dg.length := by
    have := Int.emod_lt_of_pos pl hp
    rw [il_len] at this ⊢
    exact this
  refine ⟨(dg.getD (pl % ((il dg).length : Int)).toNat 0) % many, Int.emod_nonneg _ (by omega), Int.emod_lt_of_pos _ hm, ?_⟩
  exact fnG_rt (q := ⟨_, wS dg (pl + 1) ++ w2⟩) (sSeq_to (sAsg_ok (eIx_ok rfl rfl rfl) rfl) (sSeq_to (sAsg_ok (eIx_ok rfl rfl rfl) rfl) (sSeq_to (sAsg_ok (eOp_ok (eCB1_ok (eIx_d rfl (eOp_ok (eCB1_ok (eIx_ok rfl rfl rfl) rfl) (eCB1_ok rfl rfl) (by rw [gMod, gI]; simp only [if_pos hp]; rfl)) (ixD_ls h0 h1)) rfl) rfl (by rw [gMod, gI]; simp only [if_pos hm]; rfl)) rfl) (sSeq_to (by rfl) (sRet_ok rfl)))))
theorem eNext2 {fa : ME (List XV)} {q q1 : Stt} {dg : List Int} {pl many : Int} {w2 : List WO} (hd : dg ≠ []) (hm : 0 < many) (h : fa q = some (.ok [.h 1, .d (.int many)], q1)) (hw : q1.w = wS dg pl ++ w2) :
    ∃ v, 0 ≤ v ∧ v < many ∧ eCall 2 G_law_next fa q = some (.ok (.d (.int v)), { q1 with w := wS dg (pl + 1) ++ w2 }) := by
  obtain ⟨v, h0, h1, h2⟩ := next2_ok (dg := dg) (pl := pl) (w2 := w2) hd hm
  rw [← hw] at h2
  exact ⟨v, h0, h1, eCall_ok h rfl h2⟩
theorem dec_nat (a b : Nat) : decide ((a : Int) = (b : Int)) = decide (a = b) := by
  rw [Bool.eq_iff_iff, decide_eq_true_eq, decide_eq_true_eq]
  omega
/-! ### logs by words -/
def Gd (B : Nat) (X : List Ev) : Prop := (∀ x ∈ X, okK x) ∧ X.length ≤ B
def EvG (fx : ME XV) (q q1 : Stt) (B : Nat) : Prop := ∃ X : List Ev, fx q = some (.ok (.d (.lst (X.map evD))), q1) ∧ Gd B X
theorem EvG.sl {fx : ME XV} {fl fh : ME (Option Int)} {q q1 q2 q3 : Stt} {B : Nat} {lo hi : Option Int} (h : EvG fx q q1 B) (hl : fl q1 = some (.ok lo, q2)) (hh : fh q2 = some (.ok hi, q3)) : EvG (eSl fx fl fh) q q3 B := by
  obtain ⟨X, h1, h2, h3⟩ := h
  refine ⟨(X.drop (HT.sIx (X.map evD).length 0 lo)).take (HT.sIx (X.map evD).length (X.map evD).length hi - HT.sIx (X.map evD).length 0 lo), ?_, fun x hx => h2 x (List.mem_of_mem_drop (List.mem_of_mem_take hx)), ?_⟩
  · unfold eSl
    rw [bnd_ok h1, bnd_ok hl, bnd_ok hh]
    show some ((Except.ok (XV.d (.lst (cutD (X.map evD) lo hi))) : Except Value XV), q3) = _
    unfold cutD
    rw [List.map_take, List.map_drop]
  · rw [List.length_take, List.length_drop]
    omega
theorem EvG.add {fx fy : ME XV} {q q1 q2 : Stt} {A B : Nat} (h : EvG fx q q1 A) (k : EvG fy q1 q2 B) (hl : A + B ≤ 100000) : EvG (eOp gAdd fx fy) q q2 (A + B) := by
  obtain ⟨X, h1, h2, h3⟩ := h
  obtain ⟨Y, k1, k2, k3⟩ := k
  refine ⟨X ++ Y, eOp_ok h1 k1 ?_, fun x hx => (List.mem_append.mp hx).elim (h2 x) (k2 x), by rw [List.length_append]; omega⟩
  rw [gAdd_ls (by rw [List.length_map, List.length_map]; omega), List.map_append]
theorem EvG.rev {fx : ME XV} {q q1 : Stt} {B : Nat} (h : EvG fx q q1 B) : EvG (eRevL fx) q q1 B := by
  obtain ⟨X, h1, h2, h3⟩ := h
  refine ⟨X.reverse, ?_, fun x hx => h2 x (List.mem_reverse.mp hx), by rw [List.length_reverse]; exact h3⟩
  unfold eRevL
  rw [bnd_ok h1]
  show some ((Except.ok (XV.d (.lst (X.map evD).reverse)) : Except Value XV), q1) = _
  rw [List.map_reverse]
theorem EvG.one {fx : ME XV} {q : Stt} {e : Ev} (h : fx q = some (.ok (.d (evD e)), q)) (hk : okK e) : EvG (eL (lLst (aCons fx aNil))) q q 1 := by
  refine ⟨[e], eL_ok (lLst_ok (ds := [evD e]) (aCons_ok h rfl) rfl (show 1 ≤ big by decide)), fun x hx => ?_, Nat.le_refl _⟩
  rw [List.mem_singleton.mp hx]
  exact hk
theorem EvG.mono {fx : ME XV} {q q1 : Stt} {A B : Nat} (h : EvG fx q q1 A) (hl : A ≤ B) : EvG fx q q1 B := by
  obtain ⟨X, h1, h2, h3⟩ := h
  exact ⟨X, h1, h2, Nat.le_trans h3 hl⟩
/-! ### a shorter problem -/
theorem cut_toD {ds : List D} {k : Nat} : cutD ds none (some (k : Int)) = ds.take k := by
  unfold cutD
  have h0 : HT.sIx ds.length ds.length (some (k : Int)) = min k ds.length := by
    have h1 : (if ((k : Int)) < 0 then ((k : Int) + (ds.length : Nat)).toNat else min (Int.toNat k) ds.length) = min k ds.length := by
      rw [if_neg (by omega), Int.toNat_natCast]
    exact h1
  rw [h0]
  show (ds.drop 0).take (min k ds.length - 0) = _
  rw [List.drop_zero, Nat.sub_zero]
  rcases Nat.le_total k ds.length with h | h
  · rw [Nat.min_eq_left h]
  · rw [Nat.min_eq_right h, List.take_of_length_le h, List.take_of_length_le (Nat.le_refl _)]
def sp (p : Pb) : Pb := ⟨p.rows, p.bs.map (·.take 2), p.dv, p.cl⟩
theorem sp_ok {p : Pb} (h : okQ p) : okQ (sp p) := ⟨h.n, by
  show (p.bs.map _).length ≤ 20
  rw [List.length_map]
  exact h.b, fun b hb => by
  obtain ⟨c, hc, rfl⟩ := List.mem_map.mp hb
  obtain ⟨h1, h2⟩ := h.s c hc
  refine ⟨?_, fun s hs => h2 s (List.mem_of_mem_take hs)⟩
  rw [List.length_take]
  omega⟩
def fTk : D → D
  | .tup ds => .tup (ds.take 2)
  | d => d
theorem sp_bs (p : Pb) : (p.bs.map btD).map fTk = (sp p).bs.map btD := by
  show (p.bs.map btD).map fTk = (p.bs.map (·.take 2)).map btD
  rw [List.map_map, List.map_map]
  refine List.map_congr_left fun b _ => ?_
  show D.tup ((b.map smD).take 2) = D.tup ((b.take 2).map smD)
  rw [List.map_take]
section
variable {C : Cl} {ns : List Int} {p : Pb} {m : Nat} {wd ld : Int} {f : Nat} {w : List WO}
abbrev S13 (ns : List Int) (p : Pb) (s : St3) (f : Nat) (g : D) (x6 x7 x8 x9 x10 x11 : Sl) (w : List WO) : Stt := ⟨[.dat (.seq (il ns)), .hnd 1, .dat (pbD p), .dat (stD s), .dat (.int f), .dat g, x6, x7, x8, x9, x10, x11, .un], w⟩
/-- a judgement on the law's own terms, behind which the world may have grown -/
theorem nsame2 {g1 g2 : ME XV} {q q1 : Stt} {d : D} (h1 : g1 q = some (.ok (.d d), q1)) (h2 : g2 q1 = some (.ok (.d d), q1)) (h : Same 4 d) : tNotB (tOf (eCall 2 (G_law_same 4) (aCons g1 (aCons g2 aNil)))) q = some (.ok false, q1) := by
  have e : eCall 2 (G_law_same 4) (aCons g1 (aCons g2 aNil)) q = some (.ok (.d (.bl true)), q1) := eCall_w (aCons_ok h1 (aCons_ok h2 rfl)) rfl (h q1.w)
  exact tNot_ok (b := true) (tOf_ok e)
theorem body_log {log : List Ev} {x6 x7 x8 x10 x11 : Sl} (h : okQ p) (hm : 0 < m) (hm2 : m ≤ 20) (hf : f ≤ p.bs.length) (hg : Gd 100000 log) :
    ∃ w' x10', lb_law_0 C (S13 ns p ((m : Int), wd, ld) f (grD p m wd ld f (evL p m wd f)) x6 x7 x8 (.dat (.lst (log.map evD))) x10 x11 w) = some (.nx (S13 ns p ((m : Int), wd, ld) f (grD p m wd ld f (evL p m wd f)) x6 x7 x8 (.dat (.lst (log.map evD))) x10' x11 (w ++ w'))) := by
  have hc : ∀ e, (cauL p m wd ld f e).length ≤ 100000 ∧ ∀ c ∈ cauL p m wd ld f e, okK c := fun e => by
    refine ⟨?_, fun c hc => evL_str (List.mem_filter.mp hc).1⟩
    have a1 : (cauL p m wd ld f e).length ≤ (evL p m wd f).length := List.length_filter_le _ _
    have a2 := evL_len (wd := wd) (f := f) h hm hm2
    exact Nat.le_trans a1 (Nat.le_trans a2 (by decide))
  have hlen := length_ok (w := w) (L := evL p m wd f) (log := log) hg.1 (fun e he => evL_str he) hc hg.2
  obtain ⟨w1, ha⟩ := audit_ok (C := C) (w := w) (wd := wd) (ld := ld) (log := log) h hm hm2 hf hg.2
  obtain ⟨w2, ho⟩ := orderly_ok (C := C) (w := w ++ w1) (wd := wd) (ld := ld) (log := log) h hm hm2 hf hg.2
  have c1 : eCall 4 (G_audit C) (aCons (eVar 2) (aCons (eVar 3) (aCons (eVar 4) (aCons (eVar 9) aNil)))) (S13 ns p ((m : Int), wd, ld) f (grD p m wd ld f (evL p m wd f)) x6 x7 x8 (.dat (.lst (log.map evD))) (.dat (.int (go (evL p m wd f) (cauL p m wd ld f) [] log))) x11 w) = some (.ok (.d (.int (go (evL p m wd f) (cauL p m wd ld f) [] log))), S13 ns p ((m : Int), wd, ld) f (grD p m wd ld f (evL p m wd f)) x6 x7 x8 (.dat (.lst (log.map evD))) (.dat (.int (go (evL p m wd f) (cauL p m wd ld f) [] log))) x11 (w ++ w1)) :=
    eCall_ok (q1 := S13 ns p ((m : Int), wd, ld) f (grD p m wd ld f (evL p m wd f)) x6 x7 x8 (.dat (.lst (log.map evD))) (.dat (.int (go (evL p m wd f) (cauL p m wd ld f) [] log))) x11 w) (aCons_ok rfl (aCons_ok rfl (aCons_ok rfl (aCons_ok rfl rfl)))) rfl ha
  have c2 : eCall 4 (G_is_orderly C) (aCons (eVar 2) (aCons (eVar 3) (aCons (eVar 4) (aCons (eVar 9) aNil)))) (S13 ns p ((m : Int), wd, ld) f (grD p m wd ld f (evL p m wd f)) x6 x7 x8 (.dat (.lst (log.map evD))) (.dat (.int (go (evL p m wd f) (cauL p m wd ld f) [] log))) x11 (w ++ w1)) = some (.ok (.d (.bl (decide (go (evL p m wd f) (cauL p m wd ld f) [] log = log.length)))), S13 ns p ((m : Int), wd, ld) f (grD p m wd ld f (evL p m wd f)) x6 x7 x8 (.dat (.lst (log.map evD))) (.dat (.int (go (evL p m wd f) (cauL p m wd ld f) [] log))) x11 (w ++ w1 ++ w2)) :=
    eCall_ok (q1 := S13 ns p ((m : Int), wd, ld) f (grD p m wd ld f (evL p m wd f)) x6 x7 x8 (.dat (.lst (log.map evD))) (.dat (.int (go (evL p m wd f) (cauL p m wd ld f) [] log))) x11 (w ++ w1)) (aCons_ok rfl (aCons_ok rfl (aCons_ok rfl (aCons_ok rfl rfl)))) rfl ho
  have c3 : eOp gEq (eVar 10) (eCB gLen (aCons (eVar 9) aNil)) (S13 ns p ((m : Int), wd, ld) f (grD p m wd ld f (evL p m wd f)) x6 x7 x8 (.dat (.lst (log.map evD))) (.dat (.int (go (evL p m wd f) (cauL p m wd ld f) [] log))) x11 (w ++ w1 ++ w2)) = some (.ok (.d (.bl (decide (go (evL p m wd f) (cauL p m wd ld f) [] log = log.length)))), S13 ns p ((m : Int), wd, ld) f (grD p m wd ld f (evL p m wd f)) x6 x7 x8 (.dat (.lst (log.map evD))) (.dat (.int (go (evL p m wd f) (cauL p m wd ld f) [] log))) x11 (w ++ w1 ++ w2)) := by
    refine eOp_ok rfl (eCB1_ok (x := .lst (log.map evD)) rfl rfl) ?_
    show some (D.bl (decide (((go (evL p m wd f) (cauL p m wd ld f) [] log : Nat) : Int) = ((log.map evD).length : Nat)))) = _
    rw [List.length_map, dec_nat]
  refine ⟨w1 ++ w2, .dat (.int (go (evL p m wd f) (cauL p m wd ld f) [] log)), ?_⟩
  rw [← List.append_assoc]
  exact sSeq_to (q1 := S13 ns p ((m : Int), wd, ld) f (grD p m wd ld f (evL p m wd f)) x6 x7 x8 (.dat (.lst (log.map evD))) (.dat (.int (go (evL p m wd f) (cauL p m wd ld f) [] log))) x11 w) (sAsg_ok (by exact eCall_w (aCons_ok rfl (aCons_ok rfl rfl)) rfl hlen) rfl) (sIf_f (tOr_f (nsame2 c1 rfl same_int) (nsame2 c2 c3 same_bl)) rfl)
theorem logs_loop {x6 x7 x8 x11 : Sl} (h : okQ p) (hm : 0 < m) (hm2 : m ≤ 20) (hf : f ≤ p.bs.length) : ∀ (Xs : List (List Ev)) (x9 x10 : Sl) (w : List WO), (∀ X ∈ Xs, Gd 100000 X) →
    ∃ x9' x10' w', loopD (gSet 9) (lb_law_0 C) (Xs.map fun X => .lst (X.map evD)) (S13 ns p ((m : Int), wd, ld) f (grD p m wd ld f (evL p m wd f)) x6 x7 x8 x9 x10 x11 w) = some (.nx (S13 ns p ((m : Int), wd, ld) f (grD p m wd ld f (evL p m wd f)) x6 x7 x8 x9' x10' x11 (w ++ w')))
  | [], x9, x10, w, _ => ⟨x9, x10, [], by rw [List.append_nil]; rfl⟩
  | X :: Xs, x9, x10, w, hX => by
    obtain ⟨w1, x10', h1⟩ := body_log (C := C) (ns := ns) (wd := wd) (ld := ld) (w := w) (log := X) (x6 := x6) (x7 := x7) (x8 := x8) (x10 := x10) (x11 := x11) h hm hm2 hf (hX X (by simp))
    obtain ⟨x9', x10'', w2, h2⟩ := logs_loop (x6 := x6) (x7 := x7) (x8 := x8) (x11 := x11) h hm hm2 hf Xs (.dat (.lst (X.map evD))) x10' (w ++ w1) (fun Y hY => hX Y (by simp [hY]))
    refine ⟨x9', x10'', w1 ++ w2, loopD_to (d := .lst (X.map evD)) (q1 := S13 ns p ((m : Int), wd, ld) f (grD p m wd ld f (evL p m wd f)) x6 x7 x8 (.dat (.lst (X.map evD))) x10 x11 w) rfl h1 ?_⟩
    rw [← List.append_assoc]
    exact h2
end
end Den

namespace Den
open PySem PySem.Spec PyProof.Rows L2
open Evl (Ex)
/-! ### the law -/
def kp : Pb := ⟨[5, 0, 2], [[([0, 1], 9)], [([1], 5), ([0], 0)], [([0, 2], 4)]], 2, 3⟩
theorem kp_q : okQ kp := ⟨by decide, by decide, by decide⟩
theorem page_ok {w : List WO} : G_law_page [] w = some (.ok (.d (pbD kp)), w) := by rfl
def kn3 : List Ev := [⟨"request", 0, 0, none⟩, ⟨"read", 0, 0, none⟩, ⟨"value", 0, 0, some 0⟩]
def kn2 : List Ev := [⟨"request", 0, 0, none⟩, ⟨"read", 0, 0, none⟩, ⟨"request", 0, 0, none⟩]
def kn1 : List Ev := [⟨"compute", 1, 0, none⟩]
def kn0 : List Ev := [⟨"request", 1, 1, none⟩]
theorem g1 : go (evL kp 2 1 0) (cauL kp 2 1 1 0) [] kn3 = 2 ∧ go (evL kp 2 1 0) (cauL kp 2 1 1 0) [] kn2 = 2 ∧ go (evL kp 2 1 0) (cauL kp 2 1 1 0) [] kn1 = 1 ∧ go (evL kp 2 1 0) (cauL kp 2 1 1 0) [] kn0 = 0 := by decide +kernel
theorem evL_len2 {p : Pb} {m : Nat} {wd : Int} {f n : Nat} (h : okQ p) (hm : 0 < m) (hm2 : m ≤ 20) (hb : p.bs.length ≤ n) : (evL p m wd f).length ≤ 3000 * n := by
  have := flat_len (f := evB p m (staysL p wd f)) (n := 3000) (rg f (p.bs.length - f)) fun t _ => evB_len h hm hm2 (stays_len h)
  rw [rg_len] at this
  have e : (evL p m wd f).length = (eventsL p m wd f).length := by rw [← evL_D, List.length_map]
  rw [e]
  show ((rg f (p.bs.length - f)).flatMap (evB p m (staysL p wd f))).length ≤ 3000 * n
  refine Nat.le_trans this (Nat.mul_le_mul_left _ ?_)
  omega
section
variable {C : Cl} {ns : List Int} {p : Pb} {s : St3} {f : Nat} {g : D} {w : List WO} {x6 x7 x8 x9 x10 x11 : Sl}
theorem kp_audit (Q : Stt) {log : List Ev} {k : Nat} {fl : ME XV} {f0 : Nat} (hf : f0 ≤ 3) (hl : log.length ≤ 100000) (hfl : fl Q = some (.ok (.d (.lst (log.map evD))), Q)) (hk : go (evL kp 2 1 f0) (cauL kp 2 1 1 f0) [] log = k) : ∃ w', eCall 4 (G_audit C) (aCons (eCall 0 G_law_page aNil) (aCons (eTup (aCons (eC (.int 2)) (aCons (eC (.int 1)) (aCons (eC (.int 1)) aNil)))) (aCons (eC (.int f0)) (aCons fl aNil)))) Q = some (.ok (.d (.int k)), ⟨Q.sl, w'⟩) := by
  obtain ⟨w', h⟩ := audit_ok (C := C) (p := kp) (m := 2) (wd := 1) (ld := 1) (f := f0) (w := Q.w) (log := log) kp_q (by decide) (by decide) hf hl
  rw [hk] at h
  exact ⟨Q.w ++ w', eCall_ok (q1 := Q) (xs := [.d (pbD kp), .d (stD (((2 : Nat) : Int), 1, 1)), .d (.int (f0 : Nat)), .d (.lst (log.map evD))]) (aCons_ok (eCall_w rfl rfl page_ok) (aCons_ok rfl (aCons_ok rfl (aCons_ok hfl rfl)))) rfl h⟩
theorem kp_orderly (Q : Stt) {log : List Ev} {fl : ME XV} (hl : log.length ≤ 100000) (hfl : fl Q = some (.ok (.d (.lst (log.map evD))), Q)) (hk : decide (go (evL kp 2 1 0) (cauL kp 2 1 1 0) [] log = log.length) = false) : ∃ w', eCall 4 (G_is_orderly C) (aCons (eCall 0 G_law_page aNil) (aCons (eTup (aCons (eC (.int 2)) (aCons (eC (.int 1)) (aCons (eC (.int 1)) aNil)))) (aCons (eC (.int 0)) (aCons fl aNil)))) Q = some (.ok (.d (.bl false)), ⟨Q.sl, w'⟩) := by
  obtain ⟨w', h⟩ := orderly_ok (C := C) (p := kp) (m := 2) (wd := 1) (ld := 1) (f := 0) (w := Q.w) (log := log) kp_q (by decide) (by decide) (by decide) hl
  rw [hk] at h
  exact ⟨Q.w ++ w', eCall_ok (q1 := Q) (xs := [.d (pbD kp), .d (stD (((2 : Nat) : Int), 1, 1)), .d (.int ((0 : Nat) : Int)), .d (.lst (log.map evD))]) (aCons_ok (eCall_w rfl rfl page_ok) (aCons_ok rfl (aCons_ok rfl (aCons_ok hfl rfl)))) rfl h⟩
theorem five {f1 f2 f3 f4 f5 : ME XV} {Q Q1 : Stt} {B : Nat} (h1 : EvG f1 Q Q1 B) (h2 : EvG f2 Q1 Q1 B) (h3 : EvG f3 Q1 Q1 B) (h4 : EvG f4 Q1 Q1 B) (h5 : EvG f5 Q1 Q1 B) : ∃ Xs : List (List Ev), eL (lLst (aCons f1 (aCons f2 (aCons f3 (aCons f4 (aCons f5 aNil)))))) Q = some (.ok (.d (.lst (Xs.map fun X => .lst (X.map evD)))), Q1) ∧ (∀ X ∈ Xs, Gd B X) ∧ Xs.length = 5 := by
  obtain ⟨X1, a1, b1⟩ := h1
  obtain ⟨X2, a2, b2⟩ := h2
  obtain ⟨X3, a3, b3⟩ := h3
  obtain ⟨X4, a4, b4⟩ := h4
  obtain ⟨X5, a5, b5⟩ := h5
  refine ⟨[X1, X2, X3, X4, X5], eL_ok (lLst_ok (aCons_ok a1 (aCons_ok a2 (aCons_ok a3 (aCons_ok a4 (aCons_ok a5 rfl))))) rfl (show 5 ≤ big by decide)), fun X hX => ?_, rfl⟩
  simp only [List.mem_cons, List.not_mem_nil, or_false] at hX
  rcases hX with rfl | rfl | rfl | rfl | rfl
  · exact b1
  · exact b2
  · exact b3
  · exact b4
  · exact b5
theorem four {f1 f2 f3 f4 : ME XV} {Q : Stt} {B : Nat} (h1 : EvG f1 Q Q B) (h2 : EvG f2 Q Q B) (h3 : EvG f3 Q Q B) (h4 : EvG f4 Q Q B) : ∃ Xs : List (List Ev), eL (lLst (aCons f1 (aCons f2 (aCons f3 (aCons f4 aNil))))) Q = some (.ok (.d (.lst (Xs.map fun X => .lst (X.map evD)))), Q) ∧ (∀ X ∈ Xs, Gd B X) ∧ Xs.length = 4 := by
  obtain ⟨X1, a1, b1⟩ := h1
  obtain ⟨X2, a2, b2⟩ := h2
  obtain ⟨X3, a3, b3⟩ := h3
  obtain ⟨X4, a4, b4⟩ := h4
  refine ⟨[X1, X2, X3, X4], eL_ok (lLst_ok (aCons_ok a1 (aCons_ok a2 (aCons_ok a3 (aCons_ok a4 rfl)))) rfl (show 4 ≤ big by decide)), fun X hX => ?_, rfl⟩
  simp only [List.mem_cons, List.not_mem_nil, or_false] at hX
  rcases hX with rfl | rfl | rfl | rfl
  · exact b1
  · exact b2
  · exact b3
  · exact b4
theorem logs1 {dg : List Int} {pl : Int} {log : List Ev} {w1 : List WO} (hd : dg ≠ []) (hg : Gd 9000 log) :
    ∃ (Xs : List (List Ev)), eL (lLst (aCons (eSl (eVar 6) (ret none) (bnd (eCall 2 G_law_next (aCons (eVar 1) (aCons (eC (.int 60)) aNil))) fun x => lft ((toI x).map some))) (aCons (eOp gAdd (eVar 6) (eSl (eVar 6) (ret none) (bnd (eC (.int 1)) fun x => lft ((toI x).map some)))) (aCons (eSl (eVar 6) (bnd (eC (.int 1)) fun x => lft ((toI x).map some)) (ret none)) (aCons (eOp gAdd (eL (lLst (aCons (eTup (aCons (eC (.str "compute")) (aCons (eC (.int 0)) (aCons (eC (.int 90)) aNil)))) aNil))) (eVar 6)) (aCons (eRevL (eVar 6)) aNil)))))) (S13 ns p s f g (.dat (.lst (log.map evD))) x7 x8 x9 x10 x11 (wS dg pl ++ w1)) = some (.ok (.d (.lst (Xs.map fun X => .lst (X.map evD)))), S13 ns p s f g (.dat (.lst (log.map evD))) x7 x8 x9 x10 x11 (wS dg (pl + 1) ++ w1)) ∧ (∀ X ∈ Xs, Gd 100000 X) ∧ Xs.length = 5 := by
  obtain ⟨v, _, _, hv⟩ := eNext2 (fa := aCons (eVar 1) (aCons (eC (.int 60)) aNil)) (q := S13 ns p s f g (.dat (.lst (log.map evD))) x7 x8 x9 x10 x11 (wS dg pl ++ w1)) (pl := pl) (many := 60) (w2 := w1) hd (by decide) (aCons_ok rfl (aCons_ok rfl rfl)) rfl
  have hv2 : (bnd (eCall 2 G_law_next (aCons (eVar 1) (aCons (eC (.int 60)) aNil))) fun x => lft ((toI x).map some)) (S13 ns p s f g (.dat (.lst (log.map evD))) x7 x8 x9 x10 x11 (wS dg pl ++ w1)) = some (.ok (some v), S13 ns p s f g (.dat (.lst (log.map evD))) x7 x8 x9 x10 x11 (wS dg (pl + 1) ++ w1)) := by
    rw [bnd_ok hv]
    rfl
  have var : ∀ w, EvG (eVar 6) (S13 ns p s f g (.dat (.lst (log.map evD))) x7 x8 x9 x10 x11 w) (S13 ns p s f g (.dat (.lst (log.map evD))) x7 x8 x9 x10 x11 w) 9000 := fun w => ⟨log, rfl, hg⟩
  have hk : okK ⟨"compute", 0, 90, none⟩ := by
    unfold okK
    rw [PyData.canLay0]
    dsimp only
    decide +kernel
  have t1 : eTup (aCons (eC (.str "compute")) (aCons (eC (.int 0)) (aCons (eC (.int 90)) aNil))) (S13 ns p s f g (.dat (.lst (log.map evD))) x7 x8 x9 x10 x11 (wS dg (pl + 1) ++ w1)) = some (.ok (.d (evD ⟨"compute", 0, 90, none⟩)), S13 ns p s f g (.dat (.lst (log.map evD))) x7 x8 x9 x10 x11 (wS dg (pl + 1) ++ w1)) := rfl
  have o1 : (bnd (eC (.int 1)) fun x => lft ((toI x).map some)) (S13 ns p s f g (.dat (.lst (log.map evD))) x7 x8 x9 x10 x11 (wS dg (pl + 1) ++ w1)) = some (.ok (some 1), S13 ns p s f g (.dat (.lst (log.map evD))) x7 x8 x9 x10 x11 (wS dg (pl + 1) ++ w1)) := rfl
  have no : (ret none : ME (Option Int)) (S13 ns p s f g (.dat (.lst (log.map evD))) x7 x8 x9 x10 x11 (wS dg (pl + 1) ++ w1)) = some (.ok none, S13 ns p s f g (.dat (.lst (log.map evD))) x7 x8 x9 x10 x11 (wS dg (pl + 1) ++ w1)) := rfl
  have no0 : (ret none : ME (Option Int)) (S13 ns p s f g (.dat (.lst (log.map evD))) x7 x8 x9 x10 x11 (wS dg pl ++ w1)) = some (.ok none, S13 ns p s f g (.dat (.lst (log.map evD))) x7 x8 x9 x10 x11 (wS dg pl ++ w1)) := rfl
  obtain ⟨Xs, a, b, c⟩ := five (B := 100000) (((var _).sl no0 hv2).mono (by decide)) (((var _).add ((var (wS dg (pl + 1) ++ w1)).sl no o1) (by decide)).mono (by decide)) (((var (wS dg (pl + 1) ++ w1)).sl o1 no).mono (by decide)) (((EvG.one t1 hk).add (var (wS dg (pl + 1) ++ w1)) (by decide)).mono (by decide)) ((var (wS dg (pl + 1) ++ w1)).rev.mono (by decide))
  exact ⟨Xs, a, b, c⟩
theorem logs2 {a : Int} {log : List Ev} (hg : Gd 9000 log) :
    ∃ (Xs : List (List Ev)), eL (lLst (aCons (eOp gAdd (eOp gAdd (eOp gAdd (eSl (eVar 6) (ret none) (bnd (eVar 8) fun x => lft ((toI x).map some))) (eSl (eVar 6) (bnd (eOp gAdd (eVar 8) (eC (.int 1))) fun x => lft ((toI x).map some)) (bnd (eOp gAdd (eVar 8) (eC (.int 2))) fun x => lft ((toI x).map some)))) (eSl (eVar 6) (bnd (eVar 8) fun x => lft ((toI x).map some)) (bnd (eOp gAdd (eVar 8) (eC (.int 1))) fun x => lft ((toI x).map some)))) (eSl (eVar 6) (bnd (eOp gAdd (eVar 8) (eC (.int 2))) fun x => lft ((toI x).map some)) (ret none))) (aCons (eOp gAdd (eSl (eVar 6) (ret none) (bnd (eVar 8) fun x => lft ((toI x).map some))) (eSl (eVar 6) (bnd (eOp gAdd (eVar 8) (eC (.int 1))) fun x => lft ((toI x).map some)) (ret none))) (aCons (eOp gAdd (eOp gAdd (eSl (eVar 6) (ret none) (bnd (eVar 8) fun x => lft ((toI x).map some))) (eSl (eVar 6) (ret none) (bnd (eC (.int 1)) fun x => lft ((toI x).map some)))) (eSl (eVar 6) (bnd (eVar 8) fun x => lft ((toI x).map some)) (ret none))) (aCons (eOp gAdd (eOp gAdd (eSl (eVar 6) (ret none) (bnd (eVar 8) fun x => lft ((toI x).map some))) (eL (lLst (aCons (eTup (aCons (eC (.str "request")) (aCons (eC (.int 0)) (aCons (eC (.int 0)) (aCons (eC (.int 0)) aNil))))) aNil)))) (eSl (eVar 6) (bnd (eVar 8) fun x => lft ((toI x).map some)) (ret none))) aNil))))) (S13 ns p s f g (.dat (.lst (log.map evD))) x7 (.dat (.int a)) x9 x10 x11 w) = some (.ok (.d (.lst (Xs.map fun X => .lst (X.map evD)))), S13 ns p s f g (.dat (.lst (log.map evD))) x7 (.dat (.int a)) x9 x10 x11 w) ∧ (∀ X ∈ Xs, Gd 100000 X) ∧ Xs.length = 4 := by
  have var : EvG (eVar 6) (S13 ns p s f g (.dat (.lst (log.map evD))) x7 (.dat (.int a)) x9 x10 x11 w) (S13 ns p s f g (.dat (.lst (log.map evD))) x7 (.dat (.int a)) x9 x10 x11 w) 9000 := ⟨log, rfl, hg⟩
  have hk : okK ⟨"request", 0, 0, some 0⟩ := by
    unfold okK
    rw [PyData.canLay0]
    dsimp only
    decide +kernel
  have a8 : (bnd (eVar 8) fun x => lft ((toI x).map some)) (S13 ns p s f g (.dat (.lst (log.map evD))) x7 (.dat (.int a)) x9 x10 x11 w) = some (.ok (some a), S13 ns p s f g (.dat (.lst (log.map evD))) x7 (.dat (.int a)) x9 x10 x11 w) := rfl
  have a9 : (bnd (eOp gAdd (eVar 8) (eC (.int 1))) fun x => lft ((toI x).map some)) (S13 ns p s f g (.dat (.lst (log.map evD))) x7 (.dat (.int a)) x9 x10 x11 w) = some (.ok (some (a + 1)), S13 ns p s f g (.dat (.lst (log.map evD))) x7 (.dat (.int a)) x9 x10 x11 w) := rfl
  have a10 : (bnd (eOp gAdd (eVar 8) (eC (.int 2))) fun x => lft ((toI x).map some)) (S13 ns p s f g (.dat (.lst (log.map evD))) x7 (.dat (.int a)) x9 x10 x11 w) = some (.ok (some (a + 2)), S13 ns p s f g (.dat (.lst (log.map evD))) x7 (.dat (.int a)) x9 x10 x11 w) := rfl
  have no : (ret none : ME (Option Int)) (S13 ns p s f g (.dat (.lst (log.map evD))) x7 (.dat (.int a)) x9 x10 x11 w) = some (.ok none, S13 ns p s f g (.dat (.lst (log.map evD))) x7 (.dat (.int a)) x9 x10 x11 w) := rfl
  have t1 : eTup (aCons (eC (.str "request")) (aCons (eC (.int 0)) (aCons (eC (.int 0)) (aCons (eC (.int 0)) aNil)))) (S13 ns p s f g (.dat (.lst (log.map evD))) x7 (.dat (.int a)) x9 x10 x11 w) = some (.ok (.d (evD ⟨"request", 0, 0, some 0⟩)), S13 ns p s f g (.dat (.lst (log.map evD))) x7 (.dat (.int a)) x9 x10 x11 w) := rfl
  have o1 : (bnd (eC (.int 1)) fun x => lft ((toI x).map some)) (S13 ns p s f g (.dat (.lst (log.map evD))) x7 (.dat (.int a)) x9 x10 x11 w) = some (.ok (some 1), S13 ns p s f g (.dat (.lst (log.map evD))) x7 (.dat (.int a)) x9 x10 x11 w) := rfl
  obtain ⟨Xs, r1, r2, r3⟩ := four (B := 100000)
    (((((var.sl no a8).add (var.sl a9 a10) (by decide)).add (var.sl a8 a9) (by decide)).add (var.sl a10 no) (by decide)).mono (by decide))
    (((var.sl no a8).add (var.sl a9 no) (by decide)).mono (by decide))
    ((((var.sl no a8).add (var.sl no o1) (by decide)).add (var.sl a8 no) (by decide)).mono (by decide))
    ((((var.sl no a8).add (EvG.one t1 hk) (by decide)).add (var.sl a8 no) (by decide)).mono (by decide))
  exact ⟨Xs, r1, r2, r3⟩
end
end Den

namespace Den
open PySem PySem.Spec PyProof.Rows L2
open Evl (Ex)
abbrev U13 (ns : List Int) (x2 x3 x4 x5 x6 : Sl) (w : List WO) : Stt := ⟨[.dat (.seq (il ns)), .hnd 1, x2, x3, x4, x5, x6, .un, .un, .un, .un, .un, .un], w⟩
theorem law_ok {K : PySem.W.Frag} {mg : Str → Option Value} {C : Cl} (CO : ClOk K mg C) (ns : List Int) : ∃ w', G_law C [.d (.seq (ns.map .int))] [] = some (.ok (.d (.bl true)), w') := by
  obtain ⟨dg, hd, hs⟩ := stream_ok ns
  obtain ⟨p0, pl, hp, hp3, hpr⟩ := problem_ok (dg := dg) (M := 3) hd (by decide) 0
  have hq0 := hp.q
  have hq := sp_ok hq0
  have hb0 := hp.b0
  have hb : (sp p0).bs.length ≤ 3 := by
    show (p0.bs.map _).length ≤ 3
    rw [List.length_map]
    omega
  have hb1 : 1 ≤ (sp p0).bs.length := by
    show 1 ≤ (p0.bs.map _).length
    rw [List.length_map]
    omega
  -- the shorter problem
  have hcut : lLc [12] (iOf (eIx (eVar 2) (eC (.int 1)))) (gSet 12) (ret true) (eSl (eVar 12) (ret none) (bnd (eC (.int 2)) fun x => lft ((toI x).map some))) (U13 ns (.dat (pbD p0)) .un .un .un .un (wS dg pl)) = some (.ok ((sp p0).bs.map btD), U13 ns (.dat (pbD p0)) .un .un .un .un (wS dg pl)) := by
    rw [← sp_bs]
    refine lLc_pure fTk (iOf_ok (eIx_d rfl rfl rfl) rfl) (by rw [List.length_map]; exact Nat.le_trans (show _ ≤ 100000 by have := hq0.b; omega) (by decide)) rfl fun d hd' => ?_
    obtain ⟨b, _, rfl⟩ := List.mem_map.mp hd'
    refine ⟨_, rfl, rfl, ?_⟩
    show some ((Except.ok (XV.d (.tup (cutD (b.map smD) none (some ((2 : Nat) : Int))))) : Except Value XV), _) = _
    rw [cut_toD]
    rfl
  have hshort : sAsg (eTup (aCons (eIx (eVar 2) (eC (.int 0))) (aCons (eCB gTuple (aCons (eL (lLc [12] (iOf (eIx (eVar 2) (eC (.int 1)))) (gSet 12) (ret true) (eSl (eVar 12) (ret none) (bnd (eC (.int 2)) fun x => lft ((toI x).map some))))) aNil)) (aCons (eIx (eVar 2) (eC (.int 2))) (aCons (eIx (eVar 2) (eC (.int 3))) aNil))))) (gSet 2) (U13 ns (.dat (pbD p0)) .un .un .un .un (wS dg pl)) = some (.nx (U13 ns (.dat (pbD (sp p0))) .un .un .un .un (wS dg pl))) :=
    sAsg_ok (x := .d (pbD (sp p0))) (eTup_ok (ds := [.tup (il p0.rows), .tup ((sp p0).bs.map btD), .int p0.dv, .int p0.cl]) (aCons_ok (eIx_d (z := .tup (il p0.rows)) rfl rfl rfl) (aCons_ok (eCB1_ok (z := .tup ((sp p0).bs.map btD)) (eL_ok hcut) rfl) (aCons_ok (eIx_d (z := .int p0.dv) rfl rfl rfl) (aCons_ok (eIx_d (z := .int p0.cl) rfl rfl rfl) rfl)))) rfl (show 4 ≤ big by decide)) rfl
  obtain ⟨p, hpe⟩ : ∃ p, p = sp p0 := ⟨_, rfl⟩
  rw [← hpe] at hq hb hb1 hshort
  -- the setup
  obtain ⟨a, a0, a1, ha⟩ := eNext (fa := aCons (eVar 1) (aCons (eC (.int 2)) aNil)) (q := U13 ns (.dat (pbD p)) .un .un .un .un (wS dg pl)) (pl := pl) (many := 2) hd (by decide) (aCons_ok rfl (aCons_ok rfl rfl)) rfl
  obtain ⟨b, b0, b1, hbn⟩ := eNext (fa := aCons (eVar 1) (aCons (eC (.int 2)) aNil)) (q := U13 ns (.dat (pbD p)) .un .un .un .un (wS dg (pl + 1))) (pl := pl + 1) (many := 2) hd (by decide) (aCons_ok rfl (aCons_ok rfl rfl)) rfl
  obtain ⟨c, c0, c1, hc⟩ := eNext (fa := aCons (eVar 1) (aCons (eC (.int 2)) aNil)) (q := U13 ns (.dat (pbD p)) .un .un .un .un (wS dg (pl + 1 + 1))) (pl := pl + 1 + 1) (many := 2) hd (by decide) (aCons_ok rfl (aCons_ok rfl rfl)) rfl
  obtain ⟨m, hmm⟩ : ∃ m : Nat, 1 + a = m := ⟨(1 + a).toNat, by omega⟩
  have hm : 0 < m := by omega
  have hm2 : m ≤ 20 := by omega
  have hset : sAsg (eTup (aCons (eOp gAdd (eC (.int 1)) (eCall 2 G_law_next (aCons (eVar 1) (aCons (eC (.int 2)) aNil)))) (aCons (eOp gAdd (eC (.int 1)) (eCall 2 G_law_next (aCons (eVar 1) (aCons (eC (.int 2)) aNil)))) (aCons (eOp gAdd (eC (.int 1)) (eCall 2 G_law_next (aCons (eVar 1) (aCons (eC (.int 2)) aNil)))) aNil)))) (gSet 3) (U13 ns (.dat (pbD p)) .un .un .un .un (wS dg pl)) = some (.nx (U13 ns (.dat (pbD p)) (.dat (stD ((m : Int), 1 + b, 1 + c))) .un .un .un (wS dg (pl + 1 + 1 + 1)))) := by
    rw [← hmm]
    exact sAsg_ok (x := .d (stD (1 + a, 1 + b, 1 + c))) (eTup_ok (ds := [.int (1 + a), .int (1 + b), .int (1 + c)]) (aCons_ok (x := .d (.int (1 + a))) (eOp_ok rfl ha rfl) (aCons_ok (x := .d (.int (1 + b))) (eOp_ok rfl hbn rfl) (aCons_ok (x := .d (.int (1 + c))) (eOp_ok rfl hc rfl) rfl))) rfl (show 3 ≤ big by decide)) rfl
  obtain ⟨wd, hwd⟩ : ∃ x, x = 1 + b := ⟨_, rfl⟩
  obtain ⟨ld, hld⟩ : ∃ x, x = 1 + c := ⟨_, rfl⟩
  rw [← hwd, ← hld] at hset
  have w1 : 1 ≤ wd := by omega
  have l1 : 1 ≤ ld := by omega
  -- the first batch
  obtain ⟨e, e0, e1, he⟩ := eNext (fa := aCons (eVar 1) (aCons (eC (.int 3)) aNil)) (q := U13 ns (.dat (pbD p)) (.dat (stD ((m : Int), wd, ld))) .un .un .un (wS dg (pl + 1 + 1 + 1))) (pl := pl + 1 + 1 + 1) (many := 3) hd (by decide) (aCons_ok rfl (aCons_ok rfl rfl)) rfl
  obtain ⟨pl4, hpl4⟩ : ∃ x, x = pl + 1 + 1 + 1 + 1 := ⟨_, rfl⟩
  rw [← hpl4] at he
  obtain ⟨f, hfe, hix⟩ : ∃ f : Nat, f ≤ 1 ∧ ixD (.lst [.int 0, .int 0, .int 1]) (.int e) = some (.int (f : Nat)) := by
    have : e = 0 ∨ e = 1 ∨ e = 2 := by omega
    rcases this with rfl | rfl | rfl
    · exact ⟨0, by decide, rfl⟩
    · exact ⟨0, by decide, rfl⟩
    · exact ⟨1, by decide, rfl⟩
  have hf : f ≤ p.bs.length := by omega
  have hfirst : sAsg (eIx (eL (lLst (aCons (eC (.int 0)) (aCons (eC (.int 0)) (aCons (eC (.int 1)) aNil))))) (eCall 2 G_law_next (aCons (eVar 1) (aCons (eC (.int 3)) aNil)))) (gSet 4) (U13 ns (.dat (pbD p)) (.dat (stD ((m : Int), wd, ld))) .un .un .un (wS dg (pl + 1 + 1 + 1))) = some (.nx (U13 ns (.dat (pbD p)) (.dat (stD ((m : Int), wd, ld))) (.dat (.int f)) .un .un (wS dg pl4))) :=
    sAsg_ok (eIx_d (eL_ok (lLst_ok (ds := [.int 0, .int 0, .int 1]) (q1 := U13 ns (.dat (pbD p)) (.dat (stD ((m : Int), wd, ld))) .un .un .un (wS dg (pl + 1 + 1 + 1))) rfl rfl (show 3 ≤ big by decide))) he hix) rfl
  -- the log
  obtain ⟨log, pl5, hsub, hll, hgo, hmix⟩ := mixed_ok (p := p) (m := m) (wd := wd) (ld := ld) (f := f) (dg := dg) (pl := pl4) hq hm hm2 w1 l1 hd
  have hg : Gd 9000 log := ⟨fun x hx => evL_str (hsub x hx), by
    have := evL_len2 (wd := wd) (f := f) hq hm hm2 hb
    omega⟩
  have hkn := known_ok (wd := wd) (ld := ld) (f := f) (w := wS dg pl4) hq hm hm2 hf
  obtain ⟨u1, hau⟩ := audit_ok (C := C) (w := wS dg pl5) (wd := wd) (ld := ld) (log := log) hq hm hm2 hf (Nat.le_trans hg.2 (by decide))
  obtain ⟨u2, hor⟩ := orderly_ok (C := C) (w := wS dg pl5 ++ u1) (wd := wd) (ld := ld) (log := log) hq hm hm2 hf (Nat.le_trans hg.2 (by decide))
  rw [hgo] at hau hor
  rw [decide_eq_true rfl] at hor
  obtain ⟨G, hG⟩ : ∃ G, G = grD p m wd ld f (evL p m wd f) := ⟨_, rfl⟩
  rw [← hG] at hkn hmix
  refine Rts.fnG ?_
  refine toR (sAsg_ok (eCall_ok (aCons_ok rfl (aCons_ok rfl (aCons_ok rfl rfl))) rfl hs) rfl) ?_
  refine toR (q1 := U13 ns (.dat (pbD p0)) .un .un .un .un (wS dg pl)) (sAsg_ok (by exact eCall_ok (aCons_ok rfl (aCons_ok rfl rfl)) rfl hpr) rfl) ?_
  refine toR hshort ?_
  refine toR hset ?_
  refine toR hfirst ?_
  refine toR (q1 := U13 ns (.dat (pbD p)) (.dat (stD ((m : Int), wd, ld))) (.dat (.int f)) (.dat G) .un (wS dg pl4)) (sAsg_ok (by exact eCall_w (aCons_ok rfl (aCons_ok rfl (aCons_ok rfl rfl))) rfl hkn) rfl) ?_
  refine toR (q1 := S13 ns p ((m : Int), wd, ld) f G (.dat (.lst (log.map evD))) .un .un .un .un .un (wS dg pl5)) (sAsg_ok (eCall_ok (q1 := U13 ns (.dat (pbD p)) (.dat (stD ((m : Int), wd, ld))) (.dat (.int f)) (.dat G) .un (wS dg pl4)) (aCons_ok rfl (aCons_ok rfl rfl)) rfl hmix) rfl) ?_
  have d1 : eCall 4 (G_audit C) (aCons (eVar 2) (aCons (eVar 3) (aCons (eVar 4) (aCons (eVar 6) aNil)))) (S13 ns p ((m : Int), wd, ld) f G (.dat (.lst (log.map evD))) .un .un .un .un .un (wS dg pl5)) = some (.ok (.d (.int log.length)), S13 ns p ((m : Int), wd, ld) f G (.dat (.lst (log.map evD))) .un .un .un .un .un (wS dg pl5 ++ u1)) :=
    eCall_ok (q1 := S13 ns p ((m : Int), wd, ld) f G (.dat (.lst (log.map evD))) .un .un .un .un .un (wS dg pl5)) (aCons_ok rfl (aCons_ok rfl (aCons_ok rfl (aCons_ok rfl rfl)))) rfl hau
  have d2 : eCB gLen (aCons (eVar 6) aNil) (S13 ns p ((m : Int), wd, ld) f G (.dat (.lst (log.map evD))) .un .un .un .un .un (wS dg pl5 ++ u1)) = some (.ok (.d (.int log.length)), S13 ns p ((m : Int), wd, ld) f G (.dat (.lst (log.map evD))) .un .un .un .un .un (wS dg pl5 ++ u1)) := by
    refine eCB1_ok (x := .lst (log.map evD)) rfl ?_
    show some (D.int ((log.map evD).length : Nat)) = _
    rw [List.length_map]
  have d3 : eCall 4 (G_is_orderly C) (aCons (eVar 2) (aCons (eVar 3) (aCons (eVar 4) (aCons (eVar 6) aNil)))) (S13 ns p ((m : Int), wd, ld) f G (.dat (.lst (log.map evD))) .un .un .un .un .un (wS dg pl5 ++ u1)) = some (.ok (.d (.bl true)), S13 ns p ((m : Int), wd, ld) f G (.dat (.lst (log.map evD))) .un .un .un .un .un (wS dg pl5 ++ u1 ++ u2)) :=
    eCall_ok (q1 := S13 ns p ((m : Int), wd, ld) f G (.dat (.lst (log.map evD))) .un .un .un .un .un (wS dg pl5 ++ u1)) (aCons_ok rfl (aCons_ok rfl (aCons_ok rfl (aCons_ok rfl rfl)))) rfl hor
  refine toR (sIf_f (tOr_f (nsame2 d1 d2 same_int) (nsame2 d3 rfl same_bl)) rfl) ?_
  rw [List.append_assoc]
  generalize u1 ++ u2 = u3
  obtain ⟨Xs, r1, r2, r3⟩ := logs1 (ns := ns) (p := p) (s := ((m : Int), wd, ld)) (f := f) (g := G) (pl := pl5) (w1 := u3) (x7 := .un) (x8 := .un) (x9 := .un) (x10 := .un) (x11 := .un) hd hg
  refine toR (q1 := S13 ns p ((m : Int), wd, ld) f G (.dat (.lst (log.map evD))) (.dat (.lst (Xs.map fun X => .lst (X.map evD)))) .un .un .un .un (wS dg (pl5 + 1) ++ u3)) (sAsg_ok r1 rfl) ?_
  obtain ⟨v, v0, _, hv⟩ := eNext2 (fa := aCons (eVar 1) (aCons (eC (.int 60)) aNil)) (q := S13 ns p ((m : Int), wd, ld) f G (.dat (.lst (log.map evD))) (.dat (.lst (Xs.map fun X => .lst (X.map evD)))) .un .un .un .un (wS dg (pl5 + 1) ++ u3)) (pl := pl5 + 1) (many := 60) (w2 := u3) hd (by decide) (aCons_ok rfl (aCons_ok rfl rfl)) rfl
  obtain ⟨at_, hat⟩ : ∃ at_ : Int, eOp gMod (eCall 2 G_law_next (aCons (eVar 1) (aCons (eC (.int 60)) aNil))) (eCB gMax (aCons (eC (.int 1)) (aCons (eCB gLen (aCons (eVar 6) aNil)) aNil))) (S13 ns p ((m : Int), wd, ld) f G (.dat (.lst (log.map evD))) (.dat (.lst (Xs.map fun X => .lst (X.map evD)))) .un .un .un .un (wS dg (pl5 + 1) ++ u3)) = some (.ok (.d (.int at_)), S13 ns p ((m : Int), wd, ld) f G (.dat (.lst (log.map evD))) (.dat (.lst (Xs.map fun X => .lst (X.map evD)))) .un .un .un .un (wS dg (pl5 + 1 + 1) ++ u3)) := by
    refine ⟨v % (if ((log.length : Nat) : Int) > 1 then ((log.length : Nat) : Int) else 1), eOp_ok hv (eCB2_ok (x := .int 1) (y := .int log.length) rfl (eCB1_ok (x := .lst (log.map evD)) rfl (show some (D.int ((log.map evD).length : Nat)) = _ by rw [List.length_map])) rfl) (gMod_ok ?_)⟩
    split <;> omega
  refine toR (q1 := S13 ns p ((m : Int), wd, ld) f G (.dat (.lst (log.map evD))) (.dat (.lst (Xs.map fun X => .lst (X.map evD)))) (.dat (.int at_)) .un .un .un (wS dg (pl5 + 1 + 1) ++ u3)) (sAsg_ok hat rfl) ?_
  generalize wS dg (pl5 + 1 + 1) ++ u3 = w3
  obtain ⟨Ys, t1, t2, t3⟩ := logs2 (ns := ns) (p := p) (s := ((m : Int), wd, ld)) (f := f) (g := G) (w := w3) (a := at_) (x7 := .dat (.lst (Xs.map fun X => .lst (X.map evD)))) (x9 := .un) (x10 := .un) (x11 := .un) hg
  refine toR (q1 := S13 ns p ((m : Int), wd, ld) f G (.dat (.lst (log.map evD))) (.dat (.lst ((Xs ++ Ys).map fun X => .lst (X.map evD)))) (.dat (.int at_)) .un .un .un w3) (sAsg_ok (eOp_ok (x := .lst (Xs.map fun X => .lst (X.map evD))) rfl t1 (by rw [gAdd_ls (by rw [List.length_map, List.length_map]; omega), ← List.map_append])) rfl) ?_
  obtain ⟨x9, x10, w4, hlp⟩ := logs_loop (C := C) (ns := ns) (wd := wd) (ld := ld) (x6 := .dat (.lst (log.map evD))) (x7 := .dat (.lst ((Xs ++ Ys).map fun X => .lst (X.map evD)))) (x8 := .dat (.int at_)) (x11 := .un) hq hm hm2 hf (Xs ++ Ys) .un .un w3 (fun X hX => (List.mem_append.mp hX).elim (r2 X) (t2 X))
  rw [← hG] at hlp
  refine toR (sFor_to (q1 := S13 ns p ((m : Int), wd, ld) f G (.dat (.lst (log.map evD))) (.dat (.lst ((Xs ++ Ys).map fun X => .lst (X.map evD)))) (.dat (.int at_)) .un .un .un w3) (iOf_ok rfl rfl) hlp) ?_
  generalize w3 ++ w4 = w5
  obtain ⟨x6, hx6⟩ : ∃ x, x = Sl.dat (.lst (log.map evD)) := ⟨_, rfl⟩
  obtain ⟨x7, hx7⟩ : ∃ x, x = Sl.dat (.lst ((Xs ++ Ys).map fun X => .lst (X.map evD))) := ⟨_, rfl⟩
  rw [← hx6, ← hx7]
  refine toR (q1 := S13 ns p ((m : Int), wd, ld) f G x6 x7 (.dat (.int at_)) x9 x10 (.dat (.lst (kn3.map evD))) w5) (by rfl) ?_
  obtain ⟨w6, k1⟩ := kp_audit (C := C) (S13 ns p ((m : Int), wd, ld) f G x6 x7 (.dat (.int at_)) x9 x10 (.dat (.lst (kn3.map evD))) w5) (log := kn3) (k := 2) (fl := eVar 11) (f0 := 0) (by decide) (by decide) rfl g1.1
  obtain ⟨w7, k2⟩ := kp_audit (C := C) (S13 ns p ((m : Int), wd, ld) f G x6 x7 (.dat (.int at_)) x9 x10 (.dat (.lst (kn3.map evD))) w6) (log := kn2) (k := 2) (fl := eOp gAdd (eSl (eVar 11) (ret none) (bnd (eC (.int 2)) fun x => lft ((toI x).map some))) (eSl (eVar 11) (ret none) (bnd (eC (.int 1)) fun x => lft ((toI x).map some)))) (f0 := 0) (by decide) (by decide) (by rfl) g1.2.1
  obtain ⟨w8, k3⟩ := kp_audit (C := C) (S13 ns p ((m : Int), wd, ld) f G x6 x7 (.dat (.int at_)) x9 x10 (.dat (.lst (kn3.map evD))) w7) (log := kn1) (k := 1) (fl := eL (lLst (aCons (eTup (aCons (eC (.str "compute")) (aCons (eC (.int 1)) (aCons (eC (.int 0)) aNil)))) aNil))) (f0 := 0) (by decide) (by decide) (by rfl) g1.2.2.1
  refine toR (q1 := S13 ns p ((m : Int), wd, ld) f G x6 x7 (.dat (.int at_)) x9 x10 (.dat (.lst (kn3.map evD))) w8) (sIf_f (tOr_f (tOf_ok (eOp_ok k1 rfl rfl)) (tOr_f (tOf_ok (eOp_ok k2 rfl rfl)) (tOf_ok (eOp_ok k3 rfl rfl)))) rfl) ?_
  obtain ⟨w9, k4⟩ := kp_orderly (C := C) (S13 ns p ((m : Int), wd, ld) f G x6 x7 (.dat (.int at_)) x9 x10 (.dat (.lst (kn3.map evD))) w8) (log := kn3) (fl := eVar 11) (by decide) rfl (by rw [g1.1]; rfl)
  refine toR (q1 := S13 ns p ((m : Int), wd, ld) f G x6 x7 (.dat (.int at_)) x9 x10 (.dat (.lst (kn3.map evD))) w9) (sIf_f (tOf_ok k4) rfl) ?_
  obtain ⟨w10, k5⟩ := kp_audit (C := C) (S13 ns p ((m : Int), wd, ld) f G x6 x7 (.dat (.int at_)) x9 x10 (.dat (.lst (kn3.map evD))) w9) (log := kn0) (k := 0) (fl := eL (lLst (aCons (eTup (aCons (eC (.str "request")) (aCons (eC (.int 1)) (aCons (eC (.int 1)) aNil)))) aNil))) (f0 := 0) (by decide) (by decide) (by rfl) g1.2.2.2
  obtain ⟨w11, k6⟩ := kp_audit (C := C) (S13 ns p ((m : Int), wd, ld) f G x6 x7 (.dat (.int at_)) x9 x10 (.dat (.lst (kn3.map evD))) w10) (log := []) (k := 0) (fl := eL (lLst aNil)) (f0 := 3) (by decide) (by decide) (by rfl) rfl
  exact Rts.of (q := S13 ns p ((m : Int), wd, ld) f G x6 x7 (.dat (.int at_)) x9 x10 (.dat (.lst (kn3.map evD))) w11) (sRet_ok (ifb_t (tOf_ok (eOp_ok k5 rfl rfl)) (eOp_ok k6 rfl rfl)))
end Den

namespace Den
open PySem PySem.Spec PyProof.Rows L2
open Evl (Ex)
set_option maxHeartbeats 0 in
theorem all_mk {l : PySem.W.OpenLaw} {w : World} {K : PySem.W.Frag} {h : Heap} {mg : Str → Option Value} {fa f1 f2 f3 f4 f5 f6 f7 f8 f9 f10 f11 f12 f13 f14 f15 f16 f17 f18 f19 f20 f21 f22 f23 f24 f25 f26 f27 f28 f29 f30 f31 f32 f33 f34 f35 f36 f37 f38 f39 f40 : Addr} (X : K.In h) (G : h.Ns mainGlobals mg) (hfa : mg "law" = some (.ref fa)) {od1 an1 : Option Addr} {sl1 : Array (Option Value)} {oc1 kV1 dc1 pm1 cd1 ct1 : Value} {od2 an2 : Option Addr} {sl2 : Array (Option Value)} {oc2 kV2 dc2 pm2 cd2 ct2 : Value} {od3 an3 : Option Addr} {sl3 : Array (Option Value)} {oc3 kV3 dc3 pm3 cd3 ct3 : Value} {od4 an4 : Option Addr} {sl4 : Array (Option Value)} {oc4 kV4 dc4 pm4 cd4 ct4 : Value} {od5 an5 : Option Addr} {sl5 : Array (Option Value)} {oc5 kV5 dc5 pm5 cd5 ct5 : Value} {od6 an6 : Option Addr} {sl6 : Array (Option Value)} {oc6 kV6 dc6 pm6 cd6 ct6 : Value} {od7 an7 : Option Addr} {sl7 : Array (Option Value)} {oc7 kV7 dc7 pm7 cd7 ct7 : Value} {od8 an8 : Option Addr} {sl8 : Array (Option Value)} {oc8 kV8 dc8 pm8 cd8 ct8 : Value} {od9 an9 : Option Addr} {sl9 : Array (Option Value)} {oc9 kV9 dc9 pm9 cd9 ct9 : Value} {od10 an10 : Option Addr} {sl10 : Array (Option Value)} {oc10 kV10 dc10 pm10 cd10 ct10 : Value} {od11 an11 : Option Addr} {sl11 : Array (Option Value)} {oc11 kV11 dc11 pm11 cd11 ct11 : Value} {od12 an12 : Option Addr} {sl12 : Array (Option Value)} {oc12 kV12 dc12 pm12 cd12 ct12 : Value} {od13 an13 : Option Addr} {sl13 : Array (Option Value)} {oc13 kV13 dc13 pm13 cd13 ct13 : Value} {od14 an14 : Option Addr} {sl14 : Array (Option Value)} {oc14 kV14 dc14 pm14 cd14 ct14 : Value} {od15 an15 : Option Addr} {sl15 : Array (Option Value)} {oc15 kV15 dc15 pm15 cd15 ct15 : Value} {od16 an16 : Option Addr} {sl16 : Array (Option Value)} {oc16 kV16 dc16 pm16 cd16 ct16 : Value} {od17 an17 : Option Addr} {sl17 : Array (Option Value)} {oc17 kV17 dc17 pm17 cd17 ct17 : Value} {od18 an18 : Option Addr} {sl18 : Array (Option Value)} {oc18 kV18 dc18 pm18 cd18 ct18 : Value} {od19 an19 : Option Addr} {sl19 : Array (Option Value)} {oc19 kV19 dc19 pm19 cd19 ct19 : Value} {od20 an20 : Option Addr} {sl20 : Array (Option Value)} {oc20 kV20 dc20 pm20 cd20 ct20 : Value} {od21 an21 : Option Addr} {sl21 : Array (Option Value)} {oc21 kV21 dc21 pm21 cd21 ct21 : Value} {od22 an22 : Option Addr} {sl22 : Array (Option Value)} {oc22 kV22 dc22 pm22 cd22 ct22 : Value} {od23 an23 : Option Addr} {sl23 : Array (Option Value)} {oc23 kV23 dc23 pm23 cd23 ct23 : Value} {od24 an24 : Option Addr} {sl24 : Array (Option Value)} {oc24 kV24 dc24 pm24 cd24 ct24 : Value} {od25 an25 : Option Addr} {sl25 : Array (Option Value)} {oc25 kV25 dc25 pm25 cd25 ct25 : Value} {od26 an26 : Option Addr} {sl26 : Array (Option Value)} {oc26 kV26 dc26 pm26 cd26 ct26 : Value} {od27 an27 : Option Addr} {sl27 : Array (Option Value)} {oc27 kV27 dc27 pm27 cd27 ct27 : Value} {od28 an28 : Option Addr} {sl28 : Array (Option Value)} {oc28 kV28 dc28 pm28 cd28 ct28 : Value} {od29 an29 : Option Addr} {sl29 : Array (Option Value)} {oc29 kV29 dc29 pm29 cd29 ct29 : Value} {od30 an30 : Option Addr} {sl30 : Array (Option Value)} {oc30 kV30 dc30 pm30 cd30 ct30 : Value} {od31 an31 : Option Addr} {sl31 : Array (Option Value)} {oc31 kV31 dc31 pm31 cd31 ct31 : Value} {od32 an32 : Option Addr} {sl32 : Array (Option Value)} {oc32 kV32 dc32 pm32 cd32 ct32 : Value} {od33 an33 : Option Addr} {sl33 : Array (Option Value)} {oc33 kV33 dc33 pm33 cd33 ct33 : Value} {od34 an34 : Option Addr} {sl34 : Array (Option Value)} {oc34 kV34 dc34 pm34 cd34 ct34 : Value} {od35 an35 : Option Addr} {sl35 : Array (Option Value)} {oc35 kV35 dc35 pm35 cd35 ct35 : Value} {od36 an36 : Option Addr} {sl36 : Array (Option Value)} {oc36 kV36 dc36 pm36 cd36 ct36 : Value} {od37 an37 : Option Addr} {sl37 : Array (Option Value)} {oc37 kV37 dc37 pm37 cd37 ct37 : Value} {od38 an38 : Option Addr} {sl38 : Array (Option Value)} {oc38 kV38 dc38 pm38 cd38 ct38 : Value} {od39 an39 : Option Addr} {sl39 : Array (Option Value)} {oc39 kV39 dc39 pm39 cd39 ct39 : Value} {od40 an40 : Option Addr} {sl40 : Array (Option Value)} {oc40 kV40 dc40 pm40 cd40 ct40 : Value} {esKINDS_BEFORE : Array DictEntry} {dnKINDS_BEFORE : Nat} {dtKINDS_BEFORE_0 dtKINDS_BEFORE_1 dtKINDS_BEFORE_2 : PySem.Tok} {A1 A2 : Addr}
    (a1 : PySem.W.nsIn K mainGlobals "is_tuple" = some (some (.ref f1))) (l1 : K.lookup f1 = some ⟨oc1, od1, .func (PySem.W.fnOf "is_tuple" "is_tuple" (defArgs s_is_tuple) (defBody s_is_tuple) (defScope s_is_tuple) .none kV1 dc1 pm1 an1 cd1 ct1), sl1⟩) (c1 : PySem.W.codeIn K cd1 "is_tuple" = true) (k1 : PySem.W.keepIn K (.ref f1) = true)
    (a2 : PySem.W.nsIn K mainGlobals "users" = some (some (.ref f2))) (l2 : K.lookup f2 = some ⟨oc2, od2, .func (PySem.W.fnOf "users" "users" (defArgs s_users) (defBody s_users) (defScope s_users) .none kV2 dc2 pm2 an2 cd2 ct2), sl2⟩) (c2 : PySem.W.codeIn K cd2 "users" = true) (k2 : PySem.W.keepIn K (.ref f2) = true)
    (a3 : PySem.W.nsIn K mainGlobals "uses" = some (some (.ref f3))) (l3 : K.lookup f3 = some ⟨oc3, od3, .func (PySem.W.fnOf "uses" "uses" (defArgs s_uses) (defBody s_uses) (defScope s_uses) .none kV3 dc3 pm3 an3 cd3 ct3), sl3⟩) (c3 : PySem.W.codeIn K cd3 "uses" = true) (k3 : PySem.W.keepIn K (.ref f3) = true)
    (a4 : PySem.W.nsIn K mainGlobals "_is_used" = some (some (.ref f4))) (l4 : K.lookup f4 = some ⟨oc4, od4, .func (PySem.W.fnOf "_is_used" "_is_used" (defArgs s_is_used) (defBody s_is_used) (defScope s_is_used) .none kV4 dc4 pm4 an4 cd4 ct4), sl4⟩) (c4 : PySem.W.codeIn K cd4 "_is_used" = true) (k4 : PySem.W.keepIn K (.ref f4) = true)
    (a5 : PySem.W.nsIn K mainGlobals "stays" = some (some (.ref f5))) (l5 : K.lookup f5 = some ⟨oc5, od5, .func (PySem.W.fnOf "stays" "stays" (defArgs s_stays) (defBody s_stays) (defScope s_stays) .none kV5 dc5 pm5 an5 cd5 ct5), sl5⟩) (c5 : PySem.W.codeIn K cd5 "stays" = true) (k5 : PySem.W.keepIn K (.ref f5) = true)
    (a6 : PySem.W.nsIn K mainGlobals "_stays_of_row" = some (some (.ref f6))) (l6 : K.lookup f6 = some ⟨oc6, od6, .func (PySem.W.fnOf "_stays_of_row" "_stays_of_row" (defArgs s_stays_of_row) (defBody s_stays_of_row) (defScope s_stays_of_row) .none kV6 dc6 pm6 an6 cd6 ct6), sl6⟩) (c6 : PySem.W.codeIn K cd6 "_stays_of_row" = true) (k6 : PySem.W.keepIn K (.ref f6) = true)
    (a7 : PySem.W.nsIn K mainGlobals "events" = some (some (.ref f7))) (l7 : K.lookup f7 = some ⟨oc7, od7, .func (PySem.W.fnOf "events" "events" (defArgs s_events) (defBody s_events) (defScope s_events) .none kV7 dc7 pm7 an7 cd7 ct7), sl7⟩) (c7 : PySem.W.codeIn K cd7 "events" = true) (k7 : PySem.W.keepIn K (.ref f7) = true)
    (a8 : PySem.W.nsIn K mainGlobals "_events_of_batch" = some (some (.ref f8))) (l8 : K.lookup f8 = some ⟨oc8, od8, .func (PySem.W.fnOf "_events_of_batch" "_events_of_batch" (defArgs s_events_of_batch) (defBody s_events_of_batch) (defScope s_events_of_batch) .none kV8 dc8 pm8 an8 cd8 ct8), sl8⟩) (c8 : PySem.W.codeIn K cd8 "_events_of_batch" = true) (k8 : PySem.W.keepIn K (.ref f8) = true)
    (a9 : PySem.W.nsIn K mainGlobals "_handovers" = some (some (.ref f9))) (l9 : K.lookup f9 = some ⟨oc9, od9, .func (PySem.W.fnOf "_handovers" "_handovers" (defArgs s_handovers) (defBody s_handovers) (defScope s_handovers) .none kV9 dc9 pm9 an9 cd9 ct9), sl9⟩) (c9 : PySem.W.codeIn K cd9 "_handovers" = true) (k9 : PySem.W.keepIn K (.ref f9) = true)
    (a10 : PySem.W.nsIn K mainGlobals "is_like_an_event" = some (some (.ref f10))) (l10 : K.lookup f10 = some ⟨oc10, od10, .func (PySem.W.fnOf "is_like_an_event" "is_like_an_event" (defArgs s_is_like_an_event) (defBody s_is_like_an_event) (defScope s_is_like_an_event) .none kV10 dc10 pm10 an10 cd10 ct10), sl10⟩) (c10 : PySem.W.codeIn K cd10 "is_like_an_event" = true) (k10 : PySem.W.keepIn K (.ref f10) = true)
    (a11 : PySem.W.nsIn K mainGlobals "_earlier_uses" = some (some (.ref f11))) (l11 : K.lookup f11 = some ⟨oc11, od11, .func (PySem.W.fnOf "_earlier_uses" "_earlier_uses" (defArgs s_earlier_uses) (defBody s_earlier_uses) (defScope s_earlier_uses) .none kV11 dc11 pm11 an11 cd11 ct11), sl11⟩) (c11 : PySem.W.codeIn K cd11 "_earlier_uses" = true) (k11 : PySem.W.keepIn K (.ref f11) = true)
    (a12 : PySem.W.nsIn K mainGlobals "audit" = some (some (.ref f12))) (l12 : K.lookup f12 = some ⟨oc12, od12, .func (PySem.W.fnOf "audit" "audit" (defArgs s_audit) (defBody s_audit) (defScope s_audit) .none kV12 dc12 pm12 an12 cd12 ct12), sl12⟩) (c12 : PySem.W.codeIn K cd12 "audit" = true) (k12 : PySem.W.keepIn K (.ref f12) = true)
    (a13 : PySem.W.nsIn K mainGlobals "is_orderly" = some (some (.ref f13))) (l13 : K.lookup f13 = some ⟨oc13, od13, .func (PySem.W.fnOf "is_orderly" "is_orderly" (defArgs s_is_orderly) (defBody s_is_orderly) (defScope s_is_orderly) .none kV13 dc13 pm13 an13 cd13 ct13), sl13⟩) (c13 : PySem.W.codeIn K cd13 "is_orderly" = true) (k13 : PySem.W.keepIn K (.ref f13) = true)
    (a14 : PySem.W.nsIn K mainGlobals "_law_cell" = some (some (.ref f14))) (l14 : K.lookup f14 = some ⟨oc14, od14, .func (PySem.W.fnOf "_law_cell" "_law_cell" (defArgs s_law_cell) (defBody s_law_cell) (defScope s_law_cell) .none kV14 dc14 pm14 an14 cd14 ct14), sl14⟩) (c14 : PySem.W.codeIn K cd14 "_law_cell" = true) (k14 : PySem.W.keepIn K (.ref f14) = true)
    (a15 : PySem.W.nsIn K mainGlobals "_law_draws" = some (some (.ref f15))) (l15 : K.lookup f15 = some ⟨oc15, od15, .func (PySem.W.fnOf "_law_draws" "_law_draws" (defArgs s_law_draws) (defBody s_law_draws) (defScope s_law_draws) .none kV15 dc15 pm15 an15 cd15 ct15), sl15⟩) (c15 : PySem.W.codeIn K cd15 "_law_draws" = true) (k15 : PySem.W.keepIn K (.ref f15) = true)
    (a16 : PySem.W.nsIn K mainGlobals "_law_stream" = some (some (.ref f16))) (l16 : K.lookup f16 = some ⟨oc16, od16, .func (PySem.W.fnOf "_law_stream" "_law_stream" (defArgs s_law_stream) (defBody s_law_stream) (defScope s_law_stream) .none kV16 dc16 pm16 an16 cd16 ct16), sl16⟩) (c16 : PySem.W.codeIn K cd16 "_law_stream" = true) (k16 : PySem.W.keepIn K (.ref f16) = true)
    (a17 : PySem.W.nsIn K mainGlobals "_law_next" = some (some (.ref f17))) (l17 : K.lookup f17 = some ⟨oc17, od17, .func (PySem.W.fnOf "_law_next" "_law_next" (defArgs s_law_next) (defBody s_law_next) (defScope s_law_next) .none kV17 dc17 pm17 an17 cd17 ct17), sl17⟩) (c17 : PySem.W.codeIn K cd17 "_law_next" = true) (k17 : PySem.W.keepIn K (.ref f17) = true)
    (a18 : PySem.W.nsIn K mainGlobals "_law_same" = some (some (.ref f18))) (l18 : K.lookup f18 = some ⟨oc18, od18, .func (PySem.W.fnOf "_law_same" "_law_same" (defArgs s_law_same) (defBody s_law_same) (defScope s_law_same) .none kV18 dc18 pm18 an18 cd18 ct18), sl18⟩) (c18 : PySem.W.codeIn K cd18 "_law_same" = true) (k18 : PySem.W.keepIn K (.ref f18) = true)
    (a19 : PySem.W.nsIn K mainGlobals "_law_problem" = some (some (.ref f19))) (l19 : K.lookup f19 = some ⟨oc19, od19, .func (PySem.W.fnOf "_law_problem" "_law_problem" (defArgs s_law_problem) (defBody s_law_problem) (defScope s_law_problem) .none kV19 dc19 pm19 an19 cd19 ct19), sl19⟩) (c19 : PySem.W.codeIn K cd19 "_law_problem" = true) (k19 : PySem.W.keepIn K (.ref f19) = true)
    (a20 : PySem.W.nsIn K mainGlobals "_law_part" = some (some (.ref f20))) (l20 : K.lookup f20 = some ⟨oc20, od20, .func (PySem.W.fnOf "_law_part" "_law_part" (defArgs s_law_part) (defBody s_law_part) (defScope s_law_part) .none kV20 dc20 pm20 an20 cd20 ct20), sl20⟩) (c20 : PySem.W.codeIn K cd20 "_law_part" = true) (k20 : PySem.W.keepIn K (.ref f20) = true)
    (a21 : PySem.W.nsIn K mainGlobals "_law_looked" = some (some (.ref f21))) (l21 : K.lookup f21 = some ⟨oc21, od21, .func (PySem.W.fnOf "_law_looked" "_law_looked" (defArgs s_law_looked) (defBody s_law_looked) (defScope s_law_looked) .none kV21 dc21 pm21 an21 cd21 ct21), sl21⟩) (c21 : PySem.W.codeIn K cd21 "_law_looked" = true) (k21 : PySem.W.keepIn K (.ref f21) = true)
    (a22 : PySem.W.nsIn K mainGlobals "_law_users" = some (some (.ref f22))) (l22 : K.lookup f22 = some ⟨oc22, od22, .func (PySem.W.fnOf "_law_users" "_law_users" (defArgs s_law_users) (defBody s_law_users) (defScope s_law_users) .none kV22 dc22 pm22 an22 cd22 ct22), sl22⟩) (c22 : PySem.W.codeIn K cd22 "_law_users" = true) (k22 : PySem.W.keepIn K (.ref f22) = true)
    (a23 : PySem.W.nsIn K mainGlobals "_law_uses" = some (some (.ref f23))) (l23 : K.lookup f23 = some ⟨oc23, od23, .func (PySem.W.fnOf "_law_uses" "_law_uses" (defArgs s_law_uses) (defBody s_law_uses) (defScope s_law_uses) .none kV23 dc23 pm23 an23 cd23 ct23), sl23⟩) (c23 : PySem.W.codeIn K cd23 "_law_uses" = true) (k23 : PySem.W.keepIn K (.ref f23) = true)
    (a24 : PySem.W.nsIn K mainGlobals "_law_stays" = some (some (.ref f24))) (l24 : K.lookup f24 = some ⟨oc24, od24, .func (PySem.W.fnOf "_law_stays" "_law_stays" (defArgs s_law_stays) (defBody s_law_stays) (defScope s_law_stays) .none kV24 dc24 pm24 an24 cd24 ct24), sl24⟩) (c24 : PySem.W.codeIn K cd24 "_law_stays" = true) (k24 : PySem.W.keepIn K (.ref f24) = true)
    (a25 : PySem.W.nsIn K mainGlobals "_law_events" = some (some (.ref f25))) (l25 : K.lookup f25 = some ⟨oc25, od25, .func (PySem.W.fnOf "_law_events" "_law_events" (defArgs s_law_events) (defBody s_law_events) (defScope s_law_events) .none kV25 dc25 pm25 an25 cd25 ct25), sl25⟩) (c25 : PySem.W.codeIn K cd25 "_law_events" = true) (k25 : PySem.W.keepIn K (.ref f25) = true)
    (a26 : PySem.W.nsIn K mainGlobals "_law_is_cause" = some (some (.ref f26))) (l26 : K.lookup f26 = some ⟨oc26, od26, .func (PySem.W.fnOf "_law_is_cause" "_law_is_cause" (defArgs s_law_is_cause) (defBody s_law_is_cause) (defScope s_law_is_cause) .none kV26 dc26 pm26 an26 cd26 ct26), sl26⟩) (c26 : PySem.W.codeIn K cd26 "_law_is_cause" = true) (k26 : PySem.W.keepIn K (.ref f26) = true)
    (a27 : PySem.W.nsIn K mainGlobals "_law_page" = some (some (.ref f27))) (l27 : K.lookup f27 = some ⟨oc27, od27, .func (PySem.W.fnOf "_law_page" "_law_page" (defArgs s_law_page) (defBody s_law_page) (defScope s_law_page) .none kV27 dc27 pm27 an27 cd27 ct27), sl27⟩) (c27 : PySem.W.codeIn K cd27 "_law_page" = true) (k27 : PySem.W.keepIn K (.ref f27) = true)
    (a28 : PySem.W.nsIn K mainGlobals "_law_known" = some (some (.ref f28))) (l28 : K.lookup f28 = some ⟨oc28, od28, .func (PySem.W.fnOf "_law_known" "_law_known" (defArgs s_law_known) (defBody s_law_known) (defScope s_law_known) .none kV28 dc28 pm28 an28 cd28 ct28), sl28⟩) (c28 : PySem.W.codeIn K cd28 "_law_known" = true) (k28 : PySem.W.keepIn K (.ref f28) = true)
    (a29 : PySem.W.nsIn K mainGlobals "_law_mixed" = some (some (.ref f29))) (l29 : K.lookup f29 = some ⟨oc29, od29, .func (PySem.W.fnOf "_law_mixed" "_law_mixed" (defArgs s_law_mixed) (defBody s_law_mixed) (defScope s_law_mixed) .none kV29 dc29 pm29 an29 cd29 ct29), sl29⟩) (c29 : PySem.W.codeIn K cd29 "_law_mixed" = true) (k29 : PySem.W.keepIn K (.ref f29) = true)
    (a30 : PySem.W.nsIn K mainGlobals "_law_length" = some (some (.ref f30))) (l30 : K.lookup f30 = some ⟨oc30, od30, .func (PySem.W.fnOf "_law_length" "_law_length" (defArgs s_law_length) (defBody s_law_length) (defScope s_law_length) .none kV30 dc30 pm30 an30 cd30 ct30), sl30⟩) (c30 : PySem.W.codeIn K cd30 "_law_length" = true) (k30 : PySem.W.keepIn K (.ref f30) = true)
    (a31 : PySem.W.nsIn K mainGlobals "law" = some (some (.ref f31))) (l31 : K.lookup f31 = some ⟨oc31, od31, .func (PySem.W.fnOf "law" "law" (defArgs s_law) (defBody s_law) (defScope s_law) .none kV31 dc31 pm31 an31 cd31 ct31), sl31⟩) (c31 : PySem.W.codeIn K cd31 "law" = true) (k31 : PySem.W.keepIn K (.ref f31) = true)
    (a32 : PySem.W.findIn K (.ref A1) "__init__" = some (some (.ref f32))) (g32 : PySem.W.isFn K (.ref f32) = true) (l32 : K.lookup f32 = some ⟨oc32, od32, .func (PySem.W.fnOf "__init__" "Course.__init__" (defArgs s_Course__init) (defBody s_Course__init) (defScope s_Course__init) .none kV32 dc32 pm32 an32 cd32 ct32), sl32⟩) (c32 : PySem.W.codeIn K cd32 "Course.__init__" = true) (k32 : PySem.W.keepIn K (.ref f32) = true)
    (a33 : PySem.W.findIn K (.ref A1) "has" = some (some (.ref f33))) (g33 : PySem.W.isFn K (.ref f33) = true) (l33 : K.lookup f33 = some ⟨oc33, od33, .func (PySem.W.fnOf "has" "Course.has" (defArgs s_Coursehas) (defBody s_Coursehas) (defScope s_Coursehas) .none kV33 dc33 pm33 an33 cd33 ct33), sl33⟩) (c33 : PySem.W.codeIn K cd33 "Course.has" = true) (k33 : PySem.W.keepIn K (.ref f33) = true)
    (a34 : PySem.W.findIn K (.ref A1) "causes_of" = some (some (.ref f34))) (g34 : PySem.W.isFn K (.ref f34) = true) (l34 : K.lookup f34 = some ⟨oc34, od34, .func (PySem.W.fnOf "causes_of" "Course.causes_of" (defArgs s_Coursecauses_of) (defBody s_Coursecauses_of) (defScope s_Coursecauses_of) .none kV34 dc34 pm34 an34 cd34 ct34), sl34⟩) (c34 : PySem.W.codeIn K cd34 "Course.causes_of" = true) (k34 : PySem.W.keepIn K (.ref f34) = true)
    (a35 : PySem.W.findIn K (.ref A1) "_named_causes" = some (some (.ref f35))) (g35 : PySem.W.isFn K (.ref f35) = true) (l35 : K.lookup f35 = some ⟨oc35, od35, .func (PySem.W.fnOf "_named_causes" "Course._named_causes" (defArgs s_Course_named_causes) (defBody s_Course_named_causes) (defScope s_Course_named_causes) .none kV35 dc35 pm35 an35 cd35 ct35), sl35⟩) (c35 : PySem.W.codeIn K cd35 "Course._named_causes" = true) (k35 : PySem.W.keepIn K (.ref f35) = true)
    (a36 : PySem.W.findIn K (.ref A1) "_before_request" = some (some (.ref f36))) (g36 : PySem.W.isFn K (.ref f36) = true) (l36 : K.lookup f36 = some ⟨oc36, od36, .func (PySem.W.fnOf "_before_request" "Course._before_request" (defArgs s_Course_before_request) (defBody s_Course_before_request) (defScope s_Course_before_request) .none kV36 dc36 pm36 an36 cd36 ct36), sl36⟩) (c36 : PySem.W.codeIn K cd36 "Course._before_request" = true) (k36 : PySem.W.keepIn K (.ref f36) = true)
    (a37 : PySem.W.findIn K (.ref A1) "_before_value" = some (some (.ref f37))) (g37 : PySem.W.isFn K (.ref f37) = true) (l37 : K.lookup f37 = some ⟨oc37, od37, .func (PySem.W.fnOf "_before_value" "Course._before_value" (defArgs s_Course_before_value) (defBody s_Course_before_value) (defScope s_Course_before_value) .none kV37 dc37 pm37 an37 cd37 ct37), sl37⟩) (c37 : PySem.W.codeIn K cd37 "Course._before_value" = true) (k37 : PySem.W.keepIn K (.ref f37) = true)
    (a38 : PySem.W.findIn K (.ref A1) "_before_compute" = some (some (.ref f38))) (g38 : PySem.W.isFn K (.ref f38) = true) (l38 : K.lookup f38 = some ⟨oc38, od38, .func (PySem.W.fnOf "_before_compute" "Course._before_compute" (defArgs s_Course_before_compute) (defBody s_Course_before_compute) (defScope s_Course_before_compute) .none kV38 dc38 pm38 an38 cd38 ct38), sl38⟩) (c38 : PySem.W.codeIn K cd38 "Course._before_compute" = true) (k38 : PySem.W.keepIn K (.ref f38) = true)
    (a39 : PySem.W.findIn K (.ref A1) "_updates_until" = some (some (.ref f39))) (g39 : PySem.W.isFn K (.ref f39) = true) (l39 : K.lookup f39 = some ⟨oc39, od39, .func (PySem.W.fnOf "_updates_until" "Course._updates_until" (defArgs s_Course_updates_until) (defBody s_Course_updates_until) (defScope s_Course_updates_until) .none kV39 dc39 pm39 an39 cd39 ct39), sl39⟩) (c39 : PySem.W.codeIn K cd39 "Course._updates_until" = true) (k39 : PySem.W.keepIn K (.ref f39) = true)
    (a40 : PySem.W.findIn K (.ref A1) "_updates_of_row" = some (some (.ref f40))) (g40 : PySem.W.isFn K (.ref f40) = true) (l40 : K.lookup f40 = some ⟨oc40, od40, .func (PySem.W.fnOf "_updates_of_row" "Course._updates_of_row" (defArgs s_Course_updates_of_row) (defBody s_Course_updates_of_row) (defScope s_Course_updates_of_row) .none kV40 dc40 pm40 an40 cd40 ct40), sl40⟩) (c40 : PySem.W.codeIn K cd40 "Course._updates_of_row" = true) (k40 : PySem.W.keepIn K (.ref f40) = true)
    (z1 : PySem.W.nsIn K mainGlobals "abs" = some none)
    (z2 : PySem.W.nsIn K mainGlobals "all" = some none)
    (z3 : PySem.W.nsIn K mainGlobals "any" = some none)
    (z4 : PySem.W.nsIn K mainGlobals "bool" = some none)
    (z5 : PySem.W.nsIn K mainGlobals "enumerate" = some none)
    (z6 : PySem.W.nsIn K mainGlobals "int" = some none)
    (z7 : PySem.W.nsIn K mainGlobals "isinstance" = some none)
    (z8 : PySem.W.nsIn K mainGlobals "len" = some none)
    (z9 : PySem.W.nsIn K mainGlobals "list" = some none)
    (z10 : PySem.W.nsIn K mainGlobals "max" = some none)
    (z11 : PySem.W.nsIn K mainGlobals "min" = some none)
    (z12 : PySem.W.nsIn K mainGlobals "range" = some none)
    (z13 : PySem.W.nsIn K mainGlobals "set" = some none)
    (z14 : PySem.W.nsIn K mainGlobals "sorted" = some none)
    (z15 : PySem.W.nsIn K mainGlobals "str" = some none)
    (z16 : PySem.W.nsIn K mainGlobals "tuple" = some none)
    (z17 : PySem.W.nsIn K mainGlobals "type" = some none)
    (z18 : PySem.W.nsIn K mainGlobals "zip" = some none)
    (n1 : PySem.W.nsIn K mainGlobals "Course" = some (some (.ref A1))) (r11 : PySem.W.plainGet K A1 Str.empty = true) (r12 : PySem.W.hasDictIn K A1 = true) (r13 : PySem.W.plainOver K A1 = true) (r14 : PySem.W.findIn K (.ref A1) "__setattr__" = some (some (.builtin "object.__setattr__"))) (r15 : PySem.W.makesIn K A1 = true) (r16 : PySem.W.keepIn K (.ref A1) = true)
    (s1_0 : PySem.W.findIn K (.ref A1) "earlier" = some none)
    (s1_1 : PySem.W.findIn K (.ref A1) "listed" = some none)
    (s1_2 : PySem.W.findIn K (.ref A1) "places" = some none)
    (s1_3 : PySem.W.findIn K (.ref A1) "row_count" = some none)
    (s1_4 : PySem.W.findIn K (.ref A1) "setup" = some none)
    (s1_5 : PySem.W.findIn K (.ref A1) "updates" = some none)
    (n2 : PySem.W.nsIn K mainGlobals "KINDS_BEFORE" = some (some (.ref A2))) (dd2 : K.lookup A2 = some ⟨.type "dict", none, .dict esKINDS_BEFORE dnKINDS_BEFORE, #[]⟩) (dl2 : PySem.W.KeysLit w.params esKINDS_BEFORE.toList) (dz2 : (A2 == sysModules) = false)
    (de2_0 : PySem.W.nsIn K A2 "read" = some (some (.str "request" dtKINDS_BEFORE_0)))
    (de2_1 : PySem.W.nsIn K A2 "reply" = some (some (.str "read" dtKINDS_BEFORE_1)))
    (de2_2 : PySem.W.nsIn K A2 "ack" = some (some (.str "write" dtKINDS_BEFORE_2)))
    : ∃ fd : FuncData, (∀ (s : Shared) (v : Value), BindsTo s fd ⟨[v], []⟩ [("script", v)]) ∧ ∀ base : Heap, K.In base → base.Ns mainGlobals mg → FnOk l.prog w K mg base CX0 9 fa fd ["script"] (spT K) := by
  have e := hfa.symm.trans (PySem.W.mg_of X G a31)
  cases e
  have B : Bl mg := ⟨PySem.W.mg_none_of X G z1, PySem.W.mg_none_of X G z2, PySem.W.mg_none_of X G z3, PySem.W.mg_none_of X G z4, PySem.W.mg_none_of X G z5, PySem.W.mg_none_of X G z6, PySem.W.mg_none_of X G z7, PySem.W.mg_none_of X G z8, PySem.W.mg_none_of X G z9, PySem.W.mg_none_of X G z10, PySem.W.mg_none_of X G z11, PySem.W.mg_none_of X G z12, PySem.W.mg_none_of X G z13, PySem.W.mg_none_of X G z14, PySem.W.mg_none_of X G z15, PySem.W.mg_none_of X G z16, PySem.W.mg_none_of X G z17, PySem.W.mg_none_of X G z18⟩
  have CO : ClOk K mg ⟨A1, A2⟩ := ⟨PySem.W.mg_of X G n1, ⟨r11, r12, r13, r14⟩, s1_0, s1_1, s1_2, s1_3, s1_4, s1_5⟩
  have KA : KdAll K mg w ⟨A1, A2⟩ := ⟨⟨⟨_, _, ⟨dd2, dl2, dz2⟩⟩, fun p hp => by simp only [tb_KINDS_BEFORE, List.mem_cons, List.not_mem_nil, or_false] at hp; rcases hp with rfl | rfl | rfl; exact ⟨_, .str "request", de2_0, ⟨_, rfl⟩, fun _ => rp_str⟩; exact ⟨_, .str "read", de2_1, ⟨_, rfl⟩, fun _ => rp_str⟩; exact ⟨_, .str "write", de2_2, ⟨_, rfl⟩, fun _ => rp_str⟩⟩, PySem.W.mg_of X G n2⟩
  have F1 := fun_mk (st := s_is_tuple) l1 c1 k1
  have bb1 := F1.binds (ps := ["value", "fewest", "most"]) fun _ _ _ _ _ _ us hl => match us, hl with | [_, _, _], _ => rfl
  have F2 := fun_mk (st := s_users) l2 c2 k2
  have bb2 := F2.binds (ps := ["problem", "setup", "row", "batch"]) fun _ _ _ _ _ _ us hl => match us, hl with | [_, _, _, _], _ => rfl
  have F3 := fun_mk (st := s_uses) l3 c3 k3
  have bb3 := F3.binds (ps := ["problem", "first", "row"]) fun _ _ _ _ _ _ us hl => match us, hl with | [_, _, _], _ => rfl
  have F4 := fun_mk (st := s_is_used) l4 c4 k4
  have bb4 := F4.binds (ps := ["row", "samples"]) fun _ _ _ _ _ _ us hl => match us, hl with | [_, _], _ => rfl
  have F5 := fun_mk (st := s_stays) l5 c5 k5
  have bb5 := F5.binds (ps := ["problem", "setup", "first"]) fun _ _ _ _ _ _ us hl => match us, hl with | [_, _, _], _ => rfl
  have F6 := fun_mk (st := s_stays_of_row) l6 c6 k6
  have bb6 := F6.binds (ps := ["row", "batches", "window"]) fun _ _ _ _ _ _ us hl => match us, hl with | [_, _, _], _ => rfl
  have F7 := fun_mk (st := s_events) l7 c7 k7
  have bb7 := F7.binds (ps := ["problem", "setup", "first"]) fun _ _ _ _ _ _ us hl => match us, hl with | [_, _, _], _ => rfl
  have F8 := fun_mk (st := s_events_of_batch) l8 c8 k8
  have bb8 := F8.binds (ps := ["problem", "setup", "known", "batch"]) fun _ _ _ _ _ _ us hl => match us, hl with | [_, _, _, _], _ => rfl
  have F9 := fun_mk (st := s_handovers) l9 c9 k9
  have bb9 := F9.binds (ps := ["problem", "setup", "batch"]) fun _ _ _ _ _ _ us hl => match us, hl with | [_, _, _], _ => rfl
  have F10 := fun_mk (st := s_is_like_an_event) l10 c10 k10
  have bb10 := F10.binds (ps := ["value"]) fun _ _ _ _ _ _ us hl => match us, hl with | [_], _ => rfl
  have F11 := fun_mk (st := s_earlier_uses) l11 c11 k11
  have bb11 := F11.binds (ps := ["problem", "first"]) fun _ _ _ _ _ _ us hl => match us, hl with | [_, _], _ => rfl
  have F12 := fun_mk (st := s_audit) l12 c12 k12
  have bb12 := F12.binds (ps := ["problem", "setup", "first", "log"]) fun _ _ _ _ _ _ us hl => match us, hl with | [_, _, _, _], _ => rfl
  have F13 := fun_mk (st := s_is_orderly) l13 c13 k13
  have bb13 := F13.binds (ps := ["problem", "setup", "first", "log"]) fun _ _ _ _ _ _ us hl => match us, hl with | [_, _, _, _], _ => rfl
  have F14 := fun_mk (st := s_law_cell) l14 c14 k14
  have bb14 := F14.binds (ps := ["script", "k"]) fun _ _ _ _ _ _ us hl => match us, hl with | [_, _], _ => rfl
  have F15 := fun_mk (st := s_law_draws) l15 c15 k15
  have bb15 := F15.binds (ps := ["cell", "count"]) fun _ _ _ _ _ _ us hl => match us, hl with | [_, _], _ => rfl
  have F16 := fun_mk (st := s_law_stream) l16 c16 k16
  have bb16 := F16.binds (ps := ["script", "first", "count"]) fun _ _ _ _ _ _ us hl => match us, hl with | [_, _, _], _ => rfl
  have F17 := fun_mk (st := s_law_next) l17 c17 k17
  have bb17 := F17.binds (ps := ["stream", "many"]) fun _ _ _ _ _ _ us hl => match us, hl with | [_, _], _ => rfl
  have F18 := fun_mk (st := s_law_same) l18 c18 k18
  have bb18 := F18.binds (ps := ["actual", "expected"]) fun _ _ _ _ _ _ us hl => match us, hl with | [_, _], _ => rfl
  have F19 := fun_mk (st := s_law_problem) l19 c19 k19
  have bb19 := F19.binds (ps := ["stream", "most"]) fun _ _ _ _ _ _ us hl => match us, hl with | [_, _], _ => rfl
  have F20 := fun_mk (st := s_law_part) l20 c20 k20
  have bb20 := F20.binds (ps := ["problem", "setup", "trainer", "batch"]) fun _ _ _ _ _ _ us hl => match us, hl with | [_, _, _, _], _ => rfl
  have F21 := fun_mk (st := s_law_looked) l21 c21 k21
  have bb21 := F21.binds (ps := ["samples"]) fun _ _ _ _ _ _ us hl => match us, hl with | [_], _ => rfl
  have F22 := fun_mk (st := s_law_users) l22 c22 k22
  have bb22 := F22.binds (ps := ["problem", "setup", "row", "batch"]) fun _ _ _ _ _ _ us hl => match us, hl with | [_, _, _, _], _ => rfl
  have F23 := fun_mk (st := s_law_uses) l23 c23 k23
  have bb23 := F23.binds (ps := ["problem", "first", "row"]) fun _ _ _ _ _ _ us hl => match us, hl with | [_, _, _], _ => rfl
  have F24 := fun_mk (st := s_law_stays) l24 c24 k24
  have bb24 := F24.binds (ps := ["problem", "setup", "first"]) fun _ _ _ _ _ _ us hl => match us, hl with | [_, _, _], _ => rfl
  have F25 := fun_mk (st := s_law_events) l25 c25 k25
  have bb25 := F25.binds (ps := ["problem", "setup", "first"]) fun _ _ _ _ _ _ us hl => match us, hl with | [_, _, _], _ => rfl
  have F26 := fun_mk (st := s_law_is_cause) l26 c26 k26
  have bb26 := F26.binds (ps := ["problem", "setup", "first", "other", "event"]) fun _ _ _ _ _ _ us hl => match us, hl with | [_, _, _, _, _], _ => rfl
  have F27 := fun_mk (st := s_law_page) l27 c27 k27
  have bb27 := F27.binds (ps := []) fun _ _ _ _ _ _ us hl => match us, hl with | [], _ => rfl
  have F28 := fun_mk (st := s_law_known) l28 c28 k28
  have bb28 := F28.binds (ps := ["problem", "setup", "first"]) fun _ _ _ _ _ _ us hl => match us, hl with | [_, _, _], _ => rfl
  have F29 := fun_mk (st := s_law_mixed) l29 c29 k29
  have bb29 := F29.binds (ps := ["stream", "causes"]) fun _ _ _ _ _ _ us hl => match us, hl with | [_, _], _ => rfl
  have F30 := fun_mk (st := s_law_length) l30 c30 k30
  have bb30 := F30.binds (ps := ["causes", "log"]) fun _ _ _ _ _ _ us hl => match us, hl with | [_, _], _ => rfl
  have F31 := fun_mk (st := s_law) l31 c31 k31
  have F32 := fun_mk (st := s_Course__init) l32 c32 k32
  have bb32 := F32.binds (ps := ["self", "problem", "setup", "first"]) fun _ _ _ _ _ _ us hl => match us, hl with | [_, _, _, _], _ => rfl
  have F33 := fun_mk (st := s_Coursehas) l33 c33 k33
  have bb33 := F33.binds (ps := ["self", "value"]) fun _ _ _ _ _ _ us hl => match us, hl with | [_, _], _ => rfl
  have F34 := fun_mk (st := s_Coursecauses_of) l34 c34 k34
  have bb34 := F34.binds (ps := ["self", "event"]) fun _ _ _ _ _ _ us hl => match us, hl with | [_, _], _ => rfl
  have F35 := fun_mk (st := s_Course_named_causes) l35 c35 k35
  have bb35 := F35.binds (ps := ["self", "event"]) fun _ _ _ _ _ _ us hl => match us, hl with | [_, _], _ => rfl
  have F36 := fun_mk (st := s_Course_before_request) l36 c36 k36
  have bb36 := F36.binds (ps := ["self", "row", "batch"]) fun _ _ _ _ _ _ us hl => match us, hl with | [_, _, _], _ => rfl
  have F37 := fun_mk (st := s_Course_before_value) l37 c37 k37
  have bb37 := F37.binds (ps := ["self", "row", "batch"]) fun _ _ _ _ _ _ us hl => match us, hl with | [_, _, _], _ => rfl
  have F38 := fun_mk (st := s_Course_before_compute) l38 c38 k38
  have bb38 := F38.binds (ps := ["self", "trainer", "batch"]) fun _ _ _ _ _ _ us hl => match us, hl with | [_, _, _], _ => rfl
  have F39 := fun_mk (st := s_Course_updates_until) l39 c39 k39
  have bb39 := F39.binds (ps := ["self", "batch"]) fun _ _ _ _ _ _ us hl => match us, hl with | [_, _], _ => rfl
  have F40 := fun_mk (st := s_Course_updates_of_row) l40 c40 k40
  have bb40 := F40.binds (ps := ["self", "row", "batch"]) fun _ _ _ _ _ _ us hl => match us, hl with | [_, _, _], _ => rfl
  refine ⟨PySem.W.fnOf "law" "law" (defArgs s_law) (defBody s_law) (defScope s_law) .none kV31 dc31 pm31 an31 cd31 ct31, fun s v => .of_eq rfl, fun base _ _ => ?_⟩
  have e_is_tuple := d_is_tuple (P := l.prog) (w := w) (base := base) B  F1 (PySem.W.mg_of X G a1) bb1
  have e_users := d_users (P := l.prog) (w := w) (base := base) B  F2 (PySem.W.mg_of X G a2) bb2
  have e_is_used := d_is_used (P := l.prog) (w := w) (base := base) B  F4 (PySem.W.mg_of X G a4) bb4
  have e_uses := d_uses (P := l.prog) (w := w) (base := base) B e_is_used F3 (PySem.W.mg_of X G a3) bb3
  have e_stays_of_row := d_stays_of_row (P := l.prog) (w := w) (base := base) B  F6 (PySem.W.mg_of X G a6) bb6
  have e_stays := d_stays (P := l.prog) (w := w) (base := base) B e_stays_of_row e_uses F5 (PySem.W.mg_of X G a5) bb5
  have e_handovers := d_handovers (P := l.prog) (w := w) (base := base) B e_users F9 (PySem.W.mg_of X G a9) bb9
  have e_events_of_batch := d_events_of_batch (P := l.prog) (w := w) (base := base) B e_handovers F8 (PySem.W.mg_of X G a8) bb8
  have e_events := d_events (P := l.prog) (w := w) (base := base) B e_stays e_events_of_batch F7 (PySem.W.mg_of X G a7) bb7
  have e_is_like_an_event := d_is_like_an_event (P := l.prog) (w := w) (base := base) B e_is_tuple F10 (PySem.W.mg_of X G a10) bb10
  have e_earlier_uses := d_earlier_uses (P := l.prog) (w := w) (base := base) B e_uses F11 (PySem.W.mg_of X G a11) bb11
  have e_Course__init := d_Course__init (P := l.prog) (w := w) (base := base) B CO e_events e_earlier_uses F32 ⟨r15, a32, g32, r16⟩ bb32
  have e_Coursehas := d_Coursehas (P := l.prog) (w := w) (base := base) B CO e_is_like_an_event F33 ⟨a33, g33, k33⟩ bb33
  have e_Course_updates_until := d_Course_updates_until (P := l.prog) (w := w) (base := base) B CO  F39 ⟨a39, g39, k39⟩ bb39
  have e_Course_before_request := d_Course_before_request (P := l.prog) (w := w) (base := base) B CO e_Course_updates_until F36 ⟨a36, g36, k36⟩ bb36
  have e_Course_updates_of_row := d_Course_updates_of_row (P := l.prog) (w := w) (base := base) B CO  F40 ⟨a40, g40, k40⟩ bb40
  have e_Course_before_value := d_Course_before_value (P := l.prog) (w := w) (base := base) B CO e_Course_updates_of_row F37 ⟨a37, g37, k37⟩ bb37
  have e_Course_before_compute := d_Course_before_compute (P := l.prog) (w := w) (base := base) B CO e_Course_updates_until F38 ⟨a38, g38, k38⟩ bb38
  have e_Course_named_causes := d_Course_named_causes (P := l.prog) (w := w) (base := base) B CO KA e_Course_before_request e_Course_before_value e_Course_before_compute e_Course_updates_of_row F35 ⟨a35, g35, k35⟩ bb35
  have e_Coursecauses_of := d_Coursecauses_of (P := l.prog) (w := w) (base := base) B CO e_Course_named_causes F34 ⟨a34, g34, k34⟩ bb34
  have e_audit := d_audit (P := l.prog) (w := w) (base := base) B CO e_Course__init e_Coursehas e_Coursecauses_of F12 (PySem.W.mg_of X G a12) bb12
  have e_is_orderly := d_is_orderly (P := l.prog) (w := w) (base := base) B CO e_audit F13 (PySem.W.mg_of X G a13) bb13
  have e_law_cell := d_law_cell (P := l.prog) (w := w) (base := base) B  F14 (PySem.W.mg_of X G a14) bb14
  have e_law_draws := d_law_draws (P := l.prog) (w := w) (base := base) B  F15 (PySem.W.mg_of X G a15) bb15
  have e_law_stream := d_law_stream (P := l.prog) (w := w) (base := base) B e_law_draws e_law_cell F16 (PySem.W.mg_of X G a16) bb16
  have e_law_next := d_law_next (P := l.prog) (w := w) (base := base) B  F17 (PySem.W.mg_of X G a17) bb17
  have e_law_same := d_law_same (P := l.prog) (w := w) (base := base) B  F18 (PySem.W.mg_of X G a18) bb18 4
  have e_law_problem := d_law_problem (P := l.prog) (w := w) (base := base) B e_law_next F19 (PySem.W.mg_of X G a19) bb19
  have e_law_part := d_law_part (P := l.prog) (w := w) (base := base) B  F20 (PySem.W.mg_of X G a20) bb20
  have e_law_looked := d_law_looked (P := l.prog) (w := w) (base := base) B  F21 (PySem.W.mg_of X G a21) bb21
  have e_law_users := d_law_users (P := l.prog) (w := w) (base := base) B e_law_looked e_law_part F22 (PySem.W.mg_of X G a22) bb22
  have e_law_uses := d_law_uses (P := l.prog) (w := w) (base := base) B e_law_looked F23 (PySem.W.mg_of X G a23) bb23
  have e_law_stays := d_law_stays (P := l.prog) (w := w) (base := base) B e_law_uses F24 (PySem.W.mg_of X G a24) bb24
  have e_law_events := d_law_events (P := l.prog) (w := w) (base := base) B e_law_stays e_law_users F25 (PySem.W.mg_of X G a25) bb25
  have e_law_is_cause := d_law_is_cause (P := l.prog) (w := w) (base := base) B e_law_uses F26 (PySem.W.mg_of X G a26) bb26
  have e_law_page := d_law_page (P := l.prog) (w := w) (base := base) B  F27 (PySem.W.mg_of X G a27) bb27
  have e_law_known := d_law_known (P := l.prog) (w := w) (base := base) B e_law_events e_law_is_cause F28 (PySem.W.mg_of X G a28) bb28
  have e_law_mixed := d_law_mixed (P := l.prog) (w := w) (base := base) B e_law_next F29 (PySem.W.mg_of X G a29) bb29
  have e_law_length := d_law_length (P := l.prog) (w := w) (base := base) B  F30 (PySem.W.mg_of X G a30) bb30
  exact (d_law B CO e_law_stream e_law_problem e_law_next e_law_known e_law_mixed e_law_same e_audit e_is_orderly e_law_length e_law_page F31).imp (spT_of fun ns => law_ok CO ns)
end Den

open PySem PySem.W PyProof.Rows
set_option maxHeartbeats 0 in
theorem PySem.Challenge.cw_rowsahead_k05_logs_holds : PySem.Challenge.rw_rowsahead_k05_logs.Holds := by
  w_on; o_law; k_head; (case hw => w_witness2)
  k_fill
  refine L2.walk_of (l := PySem.Challenge.rw_rowsahead_k05_logs) (n := 63) (k := 9) (x := "script") (CX := fun _ => L2.CX0) (sp := fun w => Den.spT _) rfl (by decide) rfl ⟨rfl, by decide, by decide⟩ (fun w h Y => PySem.W.kIn_of Y) ?F (fun _ H a ns hl _ hS => ⟨a, ns, rfl, hS, fun _ => rfl⟩) (fun _ _ _ _ _ h => h)
  case F =>
    intro w mg fa h KX G hmg
    refine' Den.all_mk KX G hmg ?a1 ?l1 ?c1 ?k1 ?a2 ?l2 ?c2 ?k2 ?a3 ?l3 ?c3 ?k3 ?a4 ?l4 ?c4 ?k4 ?a5 ?l5 ?c5 ?k5 ?a6 ?l6 ?c6 ?k6 ?a7 ?l7 ?c7 ?k7 ?a8 ?l8 ?c8 ?k8 ?a9 ?l9 ?c9 ?k9 ?a10 ?l10 ?c10 ?k10 ?a11 ?l11 ?c11 ?k11 ?a12 ?l12 ?c12 ?k12 ?a13 ?l13 ?c13 ?k13 ?a14 ?l14 ?c14 ?k14 ?a15 ?l15 ?c15 ?k15 ?a16 ?l16 ?c16 ?k16 ?a17 ?l17 ?c17 ?k17 ?a18 ?l18 ?c18 ?k18 ?a19 ?l19 ?c19 ?k19 ?a20 ?l20 ?c20 ?k20 ?a21 ?l21 ?c21 ?k21 ?a22 ?l22 ?c22 ?k22 ?a23 ?l23 ?c23 ?k23 ?a24 ?l24 ?c24 ?k24 ?a25 ?l25 ?c25 ?k25 ?a26 ?l26 ?c26 ?k26 ?a27 ?l27 ?c27 ?k27 ?a28 ?l28 ?c28 ?k28 ?a29 ?l29 ?c29 ?k29 ?a30 ?l30 ?c30 ?k30 ?a31 ?l31 ?c31 ?k31 ?a32 ?g32 ?l32 ?c32 ?k32 ?a33 ?g33 ?l33 ?c33 ?k33 ?a34 ?g34 ?l34 ?c34 ?k34 ?a35 ?g35 ?l35 ?c35 ?k35 ?a36 ?g36 ?l36 ?c36 ?k36 ?a37 ?g37 ?l37 ?c37 ?k37 ?a38 ?g38 ?l38 ?c38 ?k38 ?a39 ?g39 ?l39 ?c39 ?k39 ?a40 ?g40 ?l40 ?c40 ?k40 ?z1 ?z2 ?z3 ?z4 ?z5 ?z6 ?z7 ?z8 ?z9 ?z10 ?z11 ?z12 ?z13 ?z14 ?z15 ?z16 ?z17 ?z18 ?n1 ?r11 ?r12 ?r13 ?r14 ?r15 ?r16 ?s1_0 ?s1_1 ?s1_2 ?s1_3 ?s1_4 ?s1_5 ?n2 ?dd2 ?dl2 ?dz2 ?de2_0 ?de2_1 ?de2_2
    (case n1 => k_is); (case n2 => k_is); (case a1 => k_is); (case l1 => k_is); (case c1 => k_is); (case k1 => k_is); (case a2 => k_is); (case l2 => k_is); (case c2 => k_is); (case k2 => k_is); (case a3 => k_is); (case l3 => k_is); (case c3 => k_is); (case k3 => k_is); (case a4 => k_is); (case l4 => k_is); (case c4 => k_is); (case k4 => k_is); (case a5 => k_is); (case l5 => k_is); (case c5 => k_is); (case k5 => k_is); (case a6 => k_is); (case l6 => k_is); (case c6 => k_is); (case k6 => k_is); (case a7 => k_is); (case l7 => k_is); (case c7 => k_is); (case k7 => k_is); (case a8 => k_is); (case l8 => k_is); (case c8 => k_is); (case k8 => k_is); (case a9 => k_is); (case l9 => k_is); (case c9 => k_is); (case k9 => k_is); (case a10 => k_is); (case l10 => k_is); (case c10 => k_is); (case k10 => k_is); (case a11 => k_is); (case l11 => k_is); (case c11 => k_is); (case k11 => k_is); (case a12 => k_is); (case l12 => k_is); (case c12 => k_is); (case k12 => k_is); (case a13 => k_is); (case l13 => k_is); (case c13 => k_is); (case k13 => k_is); (case a14 => k_is); (case l14 => k_is); (case c14 => k_is); (case k14 => k_is); (case a15 => k_is); (case l15 => k_is); (case c15 => k_is); (case k15 => k_is); (case a16 => k_is); (case l16 => k_is); (case c16 => k_is); (case k16 => k_is); (case a17 => k_is); (case l17 => k_is); (case c17 => k_is); (case k17 => k_is); (case a18 => k_is); (case l18 => k_is); (case c18 => k_is); (case k18 => k_is); (case a19 => k_is); (case l19 => k_is); (case c19 => k_is); (case k19 => k_is); (case a20 => k_is); (case l20 => k_is); (case c20 => k_is); (case k20 => k_is); (case a21 => k_is); (case l21 => k_is); (case c21 => k_is); (case k21 => k_is); (case a22 => k_is); (case l22 => k_is); (case c22 => k_is); (case k22 => k_is); (case a23 => k_is); (case l23 => k_is); (case c23 => k_is); (case k23 => k_is); (case a24 => k_is); (case l24 => k_is); (case c24 => k_is); (case k24 => k_is); (case a25 => k_is); (case l25 => k_is); (case c25 => k_is); (case k25 => k_is); (case a26 => k_is); (case l26 => k_is); (case c26 => k_is); (case k26 => k_is); (case a27 => k_is); (case l27 => k_is); (case c27 => k_is); (case k27 => k_is); (case a28 => k_is); (case l28 => k_is); (case c28 => k_is); (case k28 => k_is); (case a29 => k_is); (case l29 => k_is); (case c29 => k_is); (case k29 => k_is); (case a30 => k_is); (case l30 => k_is); (case c30 => k_is); (case k30 => k_is); (case a31 => k_is); (case l31 => k_is); (case c31 => k_is); (case k31 => k_is); (case a32 => k_is); (case g32 => k_is); (case l32 => k_is); (case c32 => k_is); (case k32 => k_is); (case a33 => k_is); (case g33 => k_is); (case l33 => k_is); (case c33 => k_is); (case k33 => k_is); (case a34 => k_is); (case g34 => k_is); (case l34 => k_is); (case c34 => k_is); (case k34 => k_is); (case a35 => k_is); (case g35 => k_is); (case l35 => k_is); (case c35 => k_is); (case k35 => k_is); (case a36 => k_is); (case g36 => k_is); (case l36 => k_is); (case c36 => k_is); (case k36 => k_is); (case a37 => k_is); (case g37 => k_is); (case l37 => k_is); (case c37 => k_is); (case k37 => k_is); (case a38 => k_is); (case g38 => k_is); (case l38 => k_is); (case c38 => k_is); (case k38 => k_is); (case a39 => k_is); (case g39 => k_is); (case l39 => k_is); (case c39 => k_is); (case k39 => k_is); (case a40 => k_is); (case g40 => k_is); (case l40 => k_is); (case c40 => k_is); (case k40 => k_is); (case z1 => k_is); (case z2 => k_is); (case z3 => k_is); (case z4 => k_is); (case z5 => k_is); (case z6 => k_is); (case z7 => k_is); (case z8 => k_is); (case z9 => k_is); (case z10 => k_is); (case z11 => k_is); (case z12 => k_is); (case z13 => k_is); (case z14 => k_is); (case z15 => k_is); (case z16 => k_is); (case z17 => k_is); (case z18 => k_is); (case r11 => k_is); (case r12 => k_is); (case r13 => k_is); (case r14 => k_is); (case r15 => k_is); (case r16 => k_is); (case s1_0 => k_is); (case s1_1 => k_is); (case s1_2 => k_is); (case s1_3 => k_is); (case s1_4 => k_is); (case s1_5 => k_is); (case dd2 => first | rfl | k_is | decide +kernel); (case dl2 => first | k_is | decide +kernel | simp [PySem.W.KeysLit]); (case dz2 => first | rfl | k_is | decide +kernel); (case de2_0 => first | rfl | k_is | decide +kernel); (case de2_1 => first | rfl | k_is | decide +kernel); (case de2_2 => first | rfl | k_is | decide +kernel)

