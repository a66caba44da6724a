import PyProof.Rows.All
import HandS.ForMost
import HandS.Evl
import HandS.ForExc
import HandS.TryMany
import HandS.TupAny
import HandS.Wide
import HandS.More
import HandS.Conv
import HandS.TupMul
import HandS.IsInst
import HandS.DictComp
import KE.GoesEnum
import HandS.SetFor
import HandS.TupSets
import HandS.ExcIs
import PySem.Challenge.RW_rowsahead_k00_problems_and_setups
set_option Elab.async false
set_option linter.all false
set_option maxRecDepth 100000
namespace Den
open PySem L2
open Evl (Ex)

/-! ### plain data -/
inductive D where
  | non | bl (b : Bool) | int (i : Int) | str (s : Str) | ty (n : String) | ob (a : Addr)
  | tup (xs : List D) | lst (xs : List D) | seq (xs : List D)
  | dic (ks : List Key) (xs : List D) | dit (ks : List (List Key)) (xs : List D)

mutual
def Rep (K : PySem.W.Frag) (S : Hp) : D → V → Prop
  | .non, v => v = .non
  | .bl b, v => v = .bl b
  | .int i, v => v = .int i
  | .str s, v => v = .str s
  | .ty n, v => v = .ty n
  | .ob a, v => v = .ref a
  | .tup ds, v => ∃ a vs, v = .ref a ∧ SqT K S a vs ∧ RepL K S ds vs
  | .lst ds, v => ∃ a vs, v = .ref a ∧ S a = some (.lst vs) ∧ RepL K S ds vs
  | .seq ds, v => ∃ a vs, v = .ref a ∧ SqL K S a vs ∧ RepL K S ds vs
  | .dic ks ds, v => ∃ a vs, v = .ref a ∧ S a = some (.dK (ks.zip vs)) ∧ ks.length = ds.length ∧ RepL K S ds vs
  | .dit ks ds, v => ∃ a vs, v = .ref a ∧ S a = some (.dT (ks.zip vs)) ∧ ks.length = ds.length ∧ RepL K S ds vs
def RepL (K : PySem.W.Frag) (S : Hp) : List D → List V → Prop
  | [], vs => vs = []
  | d :: ds, vs => ∃ v r, vs = v :: r ∧ Rep K S d v ∧ RepL K S ds r
end
section
variable {K : PySem.W.Frag} {S S' : Hp}
mutual
theorem Rep.mono (e : Ex S S') : ∀ (d : D) (v : V), Rep K S d v → Rep K S' d v
  | .non, _, h => by rw [Rep] at h ⊢; exact h
  | .bl _, _, h => by rw [Rep] at h ⊢; exact h
  | .int _, _, h => by rw [Rep] at h ⊢; exact h
  | .str _, _, h => by rw [Rep] at h ⊢; exact h
  | .ty _, _, h => by rw [Rep] at h ⊢; exact h
  | .ob _, _, h => by rw [Rep] at h ⊢; exact h
  | .tup ds, _, h => by
    rw [Rep] at h ⊢
    obtain ⟨a, vs, e1, h1, h2⟩ := h
    exact ⟨a, vs, e1, Evl.ex_t e h1, RepL.mono e ds vs h2⟩
  | .lst ds, _, h => by
    rw [Rep] at h ⊢
    obtain ⟨a, vs, e1, h1, h2⟩ := h
    exact ⟨a, vs, e1, e _ _ h1, RepL.mono e ds vs h2⟩
  | .seq ds, _, h => by
    rw [Rep] at h ⊢
    obtain ⟨a, vs, e1, h1, h2⟩ := h
    exact ⟨a, vs, e1, Evl.ex_l e h1, RepL.mono e ds vs h2⟩
  | .dic ks ds, _, h => by
    rw [Rep] at h ⊢
    obtain ⟨a, vs, e1, h1, h3, h2⟩ := h
    exact ⟨a, vs, e1, e _ _ h1, h3, RepL.mono e ds vs h2⟩
  | .dit ks ds, _, h => by
    rw [Rep] at h ⊢
    obtain ⟨a, vs, e1, h1, h3, h2⟩ := h
    exact ⟨a, vs, e1, e _ _ h1, h3, RepL.mono e ds vs h2⟩
theorem RepL.mono (e : Ex S S') : ∀ (ds : List D) (vs : List V), RepL K S ds vs → RepL K S' ds vs
  | [], _, h => by rw [RepL] at h ⊢; exact h
  | d :: ds, _, h => by
    rw [RepL] at h ⊢
    obtain ⟨v, r, e1, h1, h2⟩ := h
    exact ⟨v, r, e1, Rep.mono e d v h1, RepL.mono e ds r h2⟩
end
theorem RepL.nil : RepL K S [] [] := by rw [RepL]
theorem RepL.cons {d : D} {ds : List D} {v : V} {vs : List V} (h : Rep K S d v) (t : RepL K S ds vs) : RepL K S (d :: ds) (v :: vs) := by
  rw [RepL]
  exact ⟨v, vs, rfl, h, t⟩
theorem RepL.length : ∀ {ds : List D} {vs : List V}, RepL K S ds vs → ds.length = vs.length
  | [], vs, h => by rw [RepL] at h; subst h; rfl
  | d :: ds, vs, h => by
    rw [RepL] at h
    obtain ⟨v, r, rfl, _, h⟩ := h
    rw [List.length_cons, List.length_cons, RepL.length h]
theorem RepL.get : ∀ {ds : List D} {vs : List V} {i : Nat} {d : D}, RepL K S ds vs → ds[i]? = some d → ∃ v, vs[i]? = some v ∧ Rep K S d v
  | [], _, i, d, _, e => by simp at e
  | x :: ds, vs, i, d, h, e => by
    rw [RepL] at h
    obtain ⟨v, r, rfl, h1, h2⟩ := h
    cases i with
    | zero =>
      have e' : x = d := by simpa using e
      subst e'
      exact ⟨v, by simp, h1⟩
    | succ i =>
      obtain ⟨u, h3, h4⟩ := RepL.get h2 (i := i) (d := d) (by simpa using e)
      exact ⟨u, by simpa using h3, h4⟩
theorem RepL.getV : ∀ {ds : List D} {vs : List V} {i : Nat} {v : V}, RepL K S ds vs → vs[i]? = some v → ∃ d, ds[i]? = some d ∧ Rep K S d v
  | [], vs, i, d, h, e => by
    rw [RepL] at h
    subst h
    simp at e
  | x :: ds, vs, i, d, h, e => by
    rw [RepL] at h
    obtain ⟨v, r, rfl, h1, h2⟩ := h
    cases i with
    | zero =>
      have e' : v = d := by simpa using e
      subst e'
      exact ⟨x, by simp, h1⟩
    | succ i =>
      obtain ⟨u, h3, h4⟩ := RepL.getV h2 (i := i) (v := d) (by simpa using e)
      exact ⟨u, by simpa using h3, h4⟩
theorem RepL.append : ∀ {ds es : List D} {vs us : List V}, RepL K S ds vs → RepL K S es us → RepL K S (ds ++ es) (vs ++ us)
  | [], es, vs, us, h, h2 => by
    rw [RepL] at h
    subst h
    exact h2
  | d :: ds, es, vs, us, h, h2 => by
    rw [RepL] at h
    obtain ⟨v, r, rfl, h1, h3⟩ := h
    exact RepL.cons h1 (RepL.append h3 h2)
theorem RepL.one {d : D} {v : V} (h : Rep K S d v) : RepL K S [d] [v] := RepL.cons h RepL.nil
theorem RepL.set : ∀ {ds : List D} {vs : List V} {d : D} {v : V} (i : Nat), RepL K S ds vs → Rep K S d v → RepL K S (ds.set i d) (vs.set i v)
  | [], vs, d, v, i, h, h2 => by
    rw [RepL] at h
    subst h
    exact RepL.nil
  | x :: ds, vs, d, v, i, h, h2 => by
    rw [RepL] at h
    obtain ⟨u, r, rfl, h1, h3⟩ := h
    cases i with
    | zero => exact RepL.cons h2 h3
    | succ i => exact RepL.cons h1 (RepL.set i h3 h2)
theorem RepL.eraseIdx : ∀ {ds : List D} {vs : List V} (i : Nat), RepL K S ds vs → RepL K S (ds.eraseIdx i) (vs.eraseIdx i)
  | [], vs, i, h => by
    rw [RepL] at h
    subst h
    exact RepL.nil
  | x :: ds, vs, i, h => by
    rw [RepL] at h
    obtain ⟨u, r, rfl, h1, h3⟩ := h
    cases i with
    | zero => exact h3
    | succ i => exact RepL.cons h1 (RepL.eraseIdx i h3)
theorem RepL.take : ∀ {ds : List D} {vs : List V} (i : Nat), RepL K S ds vs → RepL K S (ds.take i) (vs.take i)
  | [], vs, i, h => by
    rw [RepL] at h
    subst h
    rw [List.take_nil, List.take_nil]
    exact RepL.nil
  | x :: ds, vs, i, h => by
    rw [RepL] at h
    obtain ⟨u, r, rfl, h1, h3⟩ := h
    cases i with
    | zero => exact RepL.nil
    | succ i => exact RepL.cons h1 (RepL.take i h3)
theorem RepL.drop : ∀ {ds : List D} {vs : List V} (i : Nat), RepL K S ds vs → RepL K S (ds.drop i) (vs.drop i)
  | [], vs, i, h => by
    rw [RepL] at h
    subst h
    rw [List.drop_nil, List.drop_nil]
    exact RepL.nil
  | x :: ds, vs, i, h => by
    rw [RepL] at h
    obtain ⟨u, r, rfl, h1, h3⟩ := h
    cases i with
    | zero => exact RepL.cons h1 h3
    | succ i => exact RepL.drop i h3
end

/-! ### values, slots, the world's objects -/
inductive XV where
  | d (d : D) | h (n : Nat)
inductive WO where
  | dead | lst (xs : List XV)
inductive Sl where
  | un | dat (d : D) | hnd (n : Nat) | ol (ds : List D) | od (ks : List Key) (ds : List D) | ot (ks : List (List Key)) (ds : List D)
structure Stt where
  sl : List Sl
  w : List WO
def Rle (r r' : List Addr) : Prop := ∀ (n : Nat) (a : Addr), r[n]? = some a → r'[n]? = some a
theorem Rle.refl (r : List Addr) : Rle r r := fun _ _ h => h
theorem Rle.trans {a b c : List Addr} (h : Rle a b) (k : Rle b c) : Rle a c := fun n x e => k n x (h n x e)
def XRep (K : PySem.W.Frag) (S : Hp) (r : List Addr) : XV → V → Prop
  | .d d, v => Rep K S d v
  | .h n, v => ∃ a, r[n]? = some a ∧ v = .ref a
def XRepL (K : PySem.W.Frag) (S : Hp) (r : List Addr) : List XV → List V → Prop
  | [], vs => vs = []
  | x :: xs, vs => ∃ v t, vs = v :: t ∧ XRep K S r x v ∧ XRepL K S r xs t
section
variable {K : PySem.W.Frag} {S S' : Hp} {r r' : List Addr}
theorem XRep.mono (e : Ex S S') (k : Rle r r') : ∀ {x : XV} {v : V}, XRep K S r x v → XRep K S' r' x v
  | .d d, v, h => Rep.mono e d v h
  | .h n, v, ⟨a, h1, h2⟩ => ⟨a, k n a h1, h2⟩
theorem XRepL.mono (e : Ex S S') (k : Rle r r') : ∀ {xs : List XV} {vs : List V}, XRepL K S r xs vs → XRepL K S' r' xs vs
  | [], _, h => h
  | x :: xs, _, ⟨v, t, h1, h2, h3⟩ => ⟨v, t, h1, h2.mono e k, XRepL.mono e k h3⟩
theorem XRepL.length : ∀ {xs : List XV} {vs : List V}, XRepL K S r xs vs → xs.length = vs.length
  | [], vs, h => by
    have e : vs = [] := h
    subst e
    rfl
  | x :: xs, _, ⟨v, t, h1, h2, h3⟩ => by
    subst h1
    rw [List.length_cons, List.length_cons, XRepL.length h3]
theorem XRepL.get : ∀ {xs : List XV} {vs : List V} {i : Nat} {x : XV}, XRepL K S r xs vs → xs[i]? = some x → ∃ v, vs[i]? = some v ∧ XRep K S r x v
  | [], _, i, d, _, e => by simp at e
  | y :: ds, vs, i, d, h, e => by
    obtain ⟨v, t, rfl, h1, h2⟩ := h
    cases i with
    | zero =>
      have e' : y = d := by simpa using e
      subst e'
      exact ⟨v, by simp, h1⟩
    | succ i =>
      obtain ⟨u, h3, h4⟩ := XRepL.get h2 (i := i) (x := d) (by simpa using e)
      exact ⟨u, by simpa using h3, h4⟩
theorem XRepL.set : ∀ {ds : List XV} {vs : List V} {d : XV} {v : V} (i : Nat), XRepL K S r ds vs → XRep K S r d v → XRepL K S r (ds.set i d) (vs.set i v)
  | [], vs, d, v, i, h, h2 => by
    have e : vs = [] := h
    subst e
    exact rfl
  | x :: ds, vs, d, v, i, h, h2 => by
    obtain ⟨u, t, rfl, h1, h3⟩ := h
    cases i with
    | zero => exact ⟨v, t, rfl, h2, h3⟩
    | succ i => exact ⟨u, _, rfl, h1, XRepL.set i h3 h2⟩
end
abbrev Ow := Addr → Option (Sum Nat Nat)
def SlOk (K : PySem.W.Frag) (S H : Hp) (r : List Addr) (ow : Ow) (i : Nat) : Sl → Option V → Prop
  | .un, _ => True
  | .dat d, x => ∃ v, x = some v ∧ Rep K S d v
  | .hnd n, x => ∃ a, r[n]? = some a ∧ x = some (.ref a)
  | .ol ds, x => ∃ a vs, x = some (.ref a) ∧ ow a = some (.inl i) ∧ H a = some (.lst vs) ∧ RepL K S ds vs
  | .od ks ds, x => ∃ a vs, x = some (.ref a) ∧ ow a = some (.inl i) ∧ H a = some (.dK (ks.zip vs)) ∧ ks.length = ds.length ∧ RepL K S ds vs
  | .ot ks ds, x => ∃ a vs, x = some (.ref a) ∧ ow a = some (.inl i) ∧ H a = some (.dT (ks.zip vs)) ∧ ks.length = ds.length ∧ RepL K S ds vs
def WOk (K : PySem.W.Frag) (S H : Hp) (r : List Addr) (ow : Ow) (n : Nat) : WO → Prop
  | .dead => True
  | .lst xs => ∃ a vs, r[n]? = some a ∧ ow a = some (.inr n) ∧ H a = some (.lst vs) ∧ XRepL K S r xs vs
structure EnvO (K : PySem.W.Frag) (F S H : Hp) (r : List Addr) (σ : L2.St) (q : Stt) (ow : Ow) : Prop where
  sub : Ex S H
  fr : ∀ a o, F a = some o → H a = some o ∧ S a = none
  ows : ∀ a x, ow a = some x → S a = none ∧ F a = none ∧ ∃ o, H a = some o
  len : σ.length = q.sl.length
  slot : ∀ i s, q.sl[i]? = some s → SlOk K S H r ow i s (σ[i]?.getD none)
  rlen : r.length = q.w.length
  wob : ∀ n o, q.w[n]? = some o → WOk K S H r ow n o
def Env (K : PySem.W.Frag) (F S H : Hp) (r : List Addr) (σ : L2.St) (q : Stt) : Prop := ∃ ow, EnvO K F S H r σ q ow
section
variable {K : PySem.W.Frag} {F F' S S' H H' : Hp} {r r' : List Addr} {σ σ' : L2.St} {q q' : Stt} {ow ow' : Ow} {i n : Nat} {p a : Addr} {o o' : HO}
theorem SlOk.mono {s : Sl} {x : Option V} (e : Ex S S') (k : Rle r r') (ho : ∀ a, ow a = some (.inl i) → ow' a = some (.inl i) ∧ H' a = H a) (h : SlOk K S H r ow i s x) : SlOk K S' H' r' ow' i s x := by
  cases s with
  | un => trivial
  | dat d =>
    obtain ⟨v, h1, h2⟩ := h
    exact ⟨v, h1, Rep.mono e d v h2⟩
  | hnd n =>
    obtain ⟨a, h1, h2⟩ := h
    exact ⟨a, k _ _ h1, h2⟩
  | ol ds =>
    obtain ⟨a, vs, h1, h2, h3, h4⟩ := h
    exact ⟨a, vs, h1, (ho a h2).1, by rw [(ho a h2).2]; exact h3, RepL.mono e ds vs h4⟩
  | od ks ds =>
    obtain ⟨a, vs, h1, h2, h3, h5, h4⟩ := h
    exact ⟨a, vs, h1, (ho a h2).1, by rw [(ho a h2).2]; exact h3, h5, RepL.mono e ds vs h4⟩
  | ot ks ds =>
    obtain ⟨a, vs, h1, h2, h3, h5, h4⟩ := h
    exact ⟨a, vs, h1, (ho a h2).1, by rw [(ho a h2).2]; exact h3, h5, RepL.mono e ds vs h4⟩
theorem WOk.mono {s : WO} (e : Ex S S') (k : Rle r r') (ho : ∀ a, ow a = some (.inr n) → ow' a = some (.inr n) ∧ H' a = H a) (h : WOk K S H r ow n s) : WOk K S' H' r' ow' n s := by
  cases s with
  | dead => trivial
  | lst xs =>
    obtain ⟨a, vs, h1, h2, h3, h4⟩ := h
    exact ⟨a, vs, k _ _ h1, (ho a h2).1, by rw [(ho a h2).2]; exact h3, h4.mono e k⟩
theorem Env.sub (E : Env K F S H r σ q) : Ex S H := let ⟨_, e⟩ := E; e.sub
theorem Env.fr (E : Env K F S H r σ q) (h : F a = some o) : H a = some o := let ⟨_, e⟩ := E; (e.fr a o h).1
theorem Env.newF (E : Env K F S H r σ q) (h : H p = none) : F p = none := by
  obtain ⟨ow, e⟩ := E
  cases z : F p with
  | none => rfl
  | some o =>
    rw [(e.fr p o z).1] at h
    cases h
theorem Env.newS (E : Env K F S H r σ q) (h : H p = none) : S p = none := by
  obtain ⟨ow, e⟩ := E
  cases z : S p with
  | none => rfl
  | some o =>
    rw [e.sub p o z] at h
    cases h
/-- a new object, in the frame for a while -/
theorem Env.add (E : Env K F S H r σ q) (h : H p = none) (o : HO) : Env K (upd F p o) S (upd H p o) r σ q := by
  have hF := E.newF h
  have hS := E.newS h
  obtain ⟨ow, e⟩ := E
  have hw : ow p = none := by
    cases z : ow p with
    | none => rfl
    | some x =>
      obtain ⟨_, _, o, k⟩ := e.ows p x z
      rw [k] at h
      cases h
  have ne : ∀ a x, ow a = some x → a ≠ p := fun a x k z => by
    rw [z, hw] at k
    cases k
  refine ⟨ow, fun a o' k => ?_, fun a o' k => ?_, fun a x k => ?_, e.len, fun i s k => ?_, e.rlen, fun n o' k => ?_⟩
  · rw [upd_ne (ne_of_none k hS)]
    exact e.sub a o' k
  · by_cases z : a = p
    · subst z
      rw [upd_same] at k ⊢
      exact ⟨k, hS⟩
    · rw [upd_ne z] at k ⊢
      exact e.fr a o' k
  · obtain ⟨k1, k2, k3⟩ := e.ows a x k
    have z := ne a x k
    refine ⟨k1, ?_, ?_⟩
    · rw [upd_ne z]
      exact k2
    · rw [upd_ne z]
      exact k3
  · exact (e.slot i s k).mono (Evl.Ex.refl _) (Rle.refl _) fun a m => ⟨m, upd_ne (ne a _ m)⟩
  · exact (e.wob n o' k).mono (Evl.Ex.refl _) (Rle.refl _) fun a m => ⟨m, upd_ne (ne a _ m)⟩
/-- what stands in the frame alone is never written again -/
theorem Env.settle (E : Env K (upd F p o) S H r σ q) (h : F p = none) : Env K F (upd S p o) H r σ q ∧ Ex S (upd S p o) := by
  obtain ⟨ow, e⟩ := E
  obtain ⟨h1, h2⟩ := e.fr p o upd_same
  have ex : Ex S (upd S p o) := Evl.Ex.new h2
  have ne : ∀ a x, ow a = some x → a ≠ p := fun a x k z => by
    obtain ⟨_, k2, _⟩ := e.ows a x k
    rw [z, upd_same] at k2
    cases k2
  refine ⟨⟨ow, fun a o' k => ?_, fun a o' k => ?_, fun a x k => ?_, e.len, fun i s k => ?_, e.rlen, fun n o' k => ?_⟩, ex⟩
  · by_cases z : a = p
    · subst z
      rw [upd_same] at k
      cases k
      exact h1
    · rw [upd_ne z] at k
      exact e.sub a o' k
  · have z : a ≠ p := ne_of_none k h
    have k' : upd F p o a = some o' := by
      rw [upd_ne z]
      exact k
    obtain ⟨z1, z2⟩ := e.fr a o' k'
    exact ⟨z1, by rw [upd_ne z]; exact z2⟩
  · have z := ne a x k
    obtain ⟨k1, k2, k3⟩ := e.ows a x k
    rw [upd_ne z] at k2
    exact ⟨by rw [upd_ne z]; exact k1, k2, k3⟩
  · exact (e.slot i s k).mono ex (Rle.refl _) fun a m => ⟨m, rfl⟩
  · exact (e.wob n o' k).mono ex (Rle.refl _) fun a m => ⟨m, rfl⟩
/-- what stands in the frame is written -/
theorem Env.write (E : Env K (upd F p o) S H r σ q) (o' : HO) : Env K (upd F p o') S (upd H p o') r σ q := by
  obtain ⟨ow, e⟩ := E
  obtain ⟨h1, h2⟩ := e.fr p o upd_same
  have ne : ∀ a x, ow a = some x → a ≠ p := fun a x k z => by
    obtain ⟨_, k2, _⟩ := e.ows a x k
    rw [z, upd_same] at k2
    cases k2
  refine ⟨ow, fun a u k => ?_, fun a u k => ?_, fun a x k => ?_, e.len, fun i s k => ?_, e.rlen, fun n u k => ?_⟩
  · rw [upd_ne (ne_of_none k h2)]
    exact e.sub a u k
  · by_cases z : a = p
    · subst z
      rw [upd_same] at k ⊢
      exact ⟨k, h2⟩
    · rw [upd_ne z] at k ⊢
      refine e.fr a u ?_
      rw [upd_ne z]
      exact k
  · obtain ⟨k1, k2, k3⟩ := e.ows a x k
    have z := ne a x k
    rw [upd_ne z] at k2
    refine ⟨k1, by rw [upd_ne z]; exact k2, by rw [upd_ne z]; exact k3⟩
  · exact (e.slot i s k).mono (Evl.Ex.refl _) (Rle.refl _) fun a m => ⟨m, upd_ne (ne a _ m)⟩
  · exact (e.wob n u k).mono (Evl.Ex.refl _) (Rle.refl _) fun a m => ⟨m, upd_ne (ne a _ m)⟩
theorem set_getD {σ : L2.St} {i j : Nat} {x : Option V} (h : i < σ.length) : ((σ.set i x)[j]?).getD none = if j = i then x else σ[j]?.getD none := by
  by_cases e : j = i
  · subst e
    rw [List.getElem?_set_self h, if_pos rfl]
    rfl
  · rw [List.getElem?_set_ne (Ne.symm e), if_neg e]
/-- a slot is stored -/
theorem Env.put (E : Env K F S H r σ q) (i : Nat) (s : Sl) (x : Option V) (h : ∀ ow, SlOk K S H r ow i s x) (hi : i < q.sl.length) : Env K F S H r (σ.set i x) { q with sl := q.sl.set i s } := by
  obtain ⟨ow, e⟩ := E
  have hl : i < σ.length := by rw [e.len]; exact hi
  refine ⟨ow, e.sub, e.fr, e.ows, by simp [e.len], fun j t k => ?_, e.rlen, e.wob⟩
  rw [set_getD hl]
  by_cases z : j = i
  · subst z
    rw [if_pos rfl]
    have k' : (q.sl.set j s)[j]? = some t := k
    rw [List.getElem?_set_self hi] at k'
    cases k'
    exact h ow
  · rw [if_neg z]
    have k' : (q.sl.set i s)[j]? = some t := k
    rw [List.getElem?_set_ne (Ne.symm z)] at k'
    exact e.slot j t k'
theorem Env.putD {d : D} {v : V} (E : Env K F S H r σ q) (i : Nat) (h : Rep K S d v) (hi : i < q.sl.length) : Env K F S H r (σ.set i (some v)) { q with sl := q.sl.set i (.dat d) } :=
  E.put i _ _ (fun _ => ⟨v, rfl, h⟩) hi
theorem Env.putX {x : XV} {v : V} (E : Env K F S H r σ q) (i : Nat) (h : XRep K S r x v) (hi : i < q.sl.length) : Env K F S H r (σ.set i (some v)) { q with sl := q.sl.set i (match x with | .d d => .dat d | .h n => .hnd n) } := by
  cases x with
  | d d => exact E.putD i h hi
  | h n =>
    obtain ⟨a, h1, h2⟩ := h
    exact E.put i _ _ (fun _ => ⟨a, h1, by rw [h2]⟩) hi
/-- forget a slot -/
theorem Env.forget (E : Env K F S H r σ q) (i : Nat) : Env K F S H r σ { q with sl := q.sl.set i .un } := by
  obtain ⟨ow, e⟩ := E
  refine ⟨ow, e.sub, e.fr, e.ows, by simp [e.len], fun j t k => ?_, e.rlen, e.wob⟩
  have k' : (q.sl.set i .un)[j]? = some t := k
  by_cases z : i = j
  · subst z
    by_cases hi : i < q.sl.length
    · rw [List.getElem?_set_self hi] at k'
      cases k'
      trivial
    · rw [List.getElem?_eq_none (by simp; omega)] at k'
      cases k'
  · rw [List.getElem?_set_ne z] at k'
    exact e.slot j t k'
/-- a slot takes what stood in the frame alone -/
theorem Env.own (E : Env K (upd F p o) S H r σ q) (h : F p = none) (i : Nat) (s : Sl) (hs : ∀ ow : Ow, ow p = some (.inl i) → H p = some o → SlOk K S H r ow i s (some (.ref p))) (hi : i < q.sl.length) :
    Env K F S H r (σ.set i (some (.ref p))) { q with sl := q.sl.set i s } := by
  obtain ⟨ow, e⟩ := E
  obtain ⟨h1, h2⟩ := e.fr p o upd_same
  have ne : ∀ a x, ow a = some x → a ≠ p := fun a x k z => by
    obtain ⟨_, k2, _⟩ := e.ows a x k
    rw [z, upd_same] at k2
    cases k2
  have hl : i < σ.length := by rw [e.len]; exact hi
  have keep : ∀ a x, ow a = some x → (fun b => if b = p then some (Sum.inl i) else ow b) a = some x := fun a x k => by
    show (if a = p then _ else ow a) = _
    rw [if_neg (ne a x k)]
    exact k
  refine ⟨fun b => if b = p then some (.inl i) else ow b, e.sub, fun a u k => ?_, fun a x k => ?_, by simp [e.len], fun j t k => ?_, e.rlen, fun n u k => ?_⟩
  · have z : a ≠ p := ne_of_none k h
    refine e.fr a u ?_
    rw [upd_ne z]
    exact k
  · have k' : (if a = p then some (Sum.inl i) else ow a) = some x := k
    by_cases z : a = p
    · subst z
      exact ⟨h2, h, _, h1⟩
    · rw [if_neg z] at k'
      obtain ⟨k1, k2, k3⟩ := e.ows a x k'
      rw [upd_ne z] at k2
      exact ⟨k1, k2, k3⟩
  · rw [set_getD hl]
    have k' : (q.sl.set i s)[j]? = some t := k
    by_cases z : j = i
    · subst z
      rw [if_pos rfl]
      rw [List.getElem?_set_self hi] at k'
      cases k'
      exact hs _ (by show (if p = p then _ else _) = _; rw [if_pos rfl]) h1
    · rw [if_neg z]
      rw [List.getElem?_set_ne (Ne.symm z)] at k'
      exact (e.slot j t k').mono (Evl.Ex.refl _) (Rle.refl _) fun a m => ⟨keep a _ m, rfl⟩
  · exact (e.wob n u k).mono (Evl.Ex.refl _) (Rle.refl _) fun a m => ⟨keep a _ m, rfl⟩
/-- what a slot owns, back to the frame -/
theorem Env.disown {s : Sl} (E : Env K F S H r σ q) (hi : q.sl[i]? = some s) (hs : ∀ ow, SlOk K S H r ow i s (σ[i]?.getD none) → ∃ a o, σ[i]? = some (some (.ref a)) ∧ ow a = some (.inl i) ∧ H a = some o) :
    ∃ a o, σ[i]? = some (some (.ref a)) ∧ H a = some o ∧ F a = none ∧ Env K (upd F a o) S H r σ { q with sl := q.sl.set i .un } ∧ ∃ ow, ow a = some (.inl i) ∧ SlOk K S H r ow i s (some (.ref a)) := by
  obtain ⟨ow, e⟩ := E
  have hk := e.slot i s hi
  obtain ⟨a, o, ha, hw, hH⟩ := hs ow hk
  obtain ⟨k1, k2, _⟩ := e.ows a _ hw
  refine ⟨a, o, ha, hH, k2, ⟨fun b => if b = a then none else ow b, e.sub, fun b u k => ?_, fun b x k => ?_, by simp [e.len], fun j t k => ?_, e.rlen, fun n u k => ?_⟩, ow, hw, by rw [ha] at hk; exact hk⟩
  · by_cases z : b = a
    · subst z
      rw [upd_same] at k
      cases k
      exact ⟨hH, k1⟩
    · rw [upd_ne z] at k
      exact e.fr b u k
  · have k' : (if b = a then none else ow b) = some x := k
    by_cases z : b = a
    · rw [if_pos z] at k'
      cases k'
    · rw [if_neg z] at k'
      obtain ⟨m1, m2, m3⟩ := e.ows b x k'
      exact ⟨m1, by rw [upd_ne z]; exact m2, m3⟩
  · have k' : (q.sl.set i .un)[j]? = some t := k
    by_cases z : i = j
    · subst z
      have hl := (List.getElem?_eq_some_iff.mp hi).1
      rw [List.getElem?_set_self hl] at k'
      cases k'
      trivial
    · rw [List.getElem?_set_ne z] at k'
      refine (e.slot j t k').mono (Evl.Ex.refl _) (Rle.refl _) fun b m => ⟨?_, rfl⟩
      show (if b = a then none else ow b) = _
      rw [if_neg ?_]
      · exact m
      · rintro rfl
        rw [hw] at m
        cases m
        exact z rfl
  · refine (e.wob n u k).mono (Evl.Ex.refl _) (Rle.refl _) fun b m => ⟨?_, rfl⟩
    show (if b = a then none else ow b) = _
    rw [if_neg ?_]
    · exact m
    · rintro rfl
      rw [hw] at m
      cases m
/-- the callee's view: what the caller's slots own is in the frame -/
theorem Env.hide (E : Env K F S H r σ q) : ∃ F', (∀ a o, F a = some o → F' a = some o) ∧ Env K F' S H r [] ⟨[], q.w⟩ ∧
    ∀ S' H' r' w', Ex S S' → Rle r r' → Env K F' S' H' r' [] ⟨[], w'⟩ → Env K F S' H' r' σ ⟨q.sl, w'⟩ := by
  obtain ⟨ow, e⟩ := E
  let F' : Hp := fun a => match ow a with | some (.inl _) => H a | _ => F a
  have f1 : ∀ a i, ow a = some (.inl i) → F' a = H a := fun a i k => by
    show (match ow a with | some (.inl _) => H a | _ => F a) = H a
    rw [k]
  have f2 : ∀ a, (∀ i, ow a ≠ some (.inl i)) → F' a = F a := fun a k => by
    show (match ow a with | some (.inl _) => H a | _ => F a) = F a
    cases z : ow a with
    | none => rfl
    | some x =>
      cases x with
      | inl i => exact absurd z (k i)
      | inr i => rfl
  have f3 : ∀ a o, F' a = some o → (∃ i, ow a = some (.inl i)) ∨ F a = some o := fun a o k => by
    cases z : ow a with
    | none =>
      rw [f2 a (fun i h => by rw [z] at h; cases h)] at k
      exact .inr k
    | some x =>
      cases x with
      | inl i => exact .inl ⟨i, rfl⟩
      | inr i =>
        rw [f2 a (fun i h => by rw [z] at h; cases h)] at k
        exact .inr k
  refine ⟨F', fun a o k => ?_, ⟨fun a => match ow a with | some (.inr n) => some (.inr n) | _ => none, e.sub, fun a o k => ?_, fun a x k => ?_, rfl, fun i s k => ?_, e.rlen, fun n o k => ?_⟩, fun S' H' r' w' eS er E' => ?_⟩
  · rw [f2 a fun i h => ?_]
    · exact k
    · obtain ⟨_, k2, _⟩ := e.ows a _ h
      rw [k2] at k
      cases k
  · rcases f3 a o k with ⟨i, h⟩ | h
    · rw [f1 a i h] at k
      exact ⟨k, (e.ows a _ h).1⟩
    · exact e.fr a o h
  · have k' : (match ow a with | some (.inr n) => some (Sum.inr n) | _ => none) = some x := k
    cases z : ow a with
    | none => rw [z] at k'; cases k'
    | some y =>
      cases y with
      | inl i => rw [z] at k'; cases k'
      | inr n =>
        obtain ⟨m1, m2, m3⟩ := e.ows a _ z
        refine ⟨m1, ?_, m3⟩
        rw [f2 a (fun i h => by rw [z] at h; cases h)]
        exact m2
  · simp at k
  · refine (e.wob n o k).mono (Evl.Ex.refl _) (Rle.refl _) fun b m => ⟨?_, rfl⟩
    show (match ow b with | some (.inr n) => some (Sum.inr n) | _ => none) = _
    rw [m]
  · obtain ⟨ow', e'⟩ := E'
    refine ⟨fun a => match ow a with | some (.inl i) => some (.inl i) | _ => (match ow' a with | some (.inr n) => some (.inr n) | _ => none), e'.sub, fun a o k => ?_, fun a x k => ?_, e.len, fun i s k => ?_, e'.rlen, fun n o k => ?_⟩
    · have nk : ∀ i, ow a ≠ some (.inl i) := fun i h => by
        obtain ⟨_, k2, _⟩ := e.ows a _ h
        rw [k2] at k
        cases k
      have k' : F' a = some o := by
        rw [f2 a nk]
        exact k
      exact e'.fr a o k'
    · have k' : (match ow a with | some (.inl i) => some (Sum.inl i) | _ => (match ow' a with | some (.inr n) => some (.inr n) | _ => none)) = some x := k
      have own : ∀ i, ow a = some (.inl i) → S' a = none ∧ F a = none ∧ ∃ o, H' a = some o := fun i z => by
        obtain ⟨m1, m2, o, m3⟩ := e.ows a _ z
        have m4 : F' a = some o := by
          rw [f1 a i z]
          exact m3
        obtain ⟨m5, m6⟩ := e'.fr a o m4
        exact ⟨m6, m2, o, m5⟩
      have oth : (∀ i, ow a ≠ some (.inl i)) → (∃ n, ow' a = some (.inr n)) → S' a = none ∧ F a = none ∧ ∃ o, H' a = some o := fun nz ⟨n, z'⟩ => by
        obtain ⟨m1, m2, m3⟩ := e'.ows a _ z'
        refine ⟨m1, ?_, m3⟩
        rw [f2 a nz] at m2
        exact m2
      cases z : ow a with
      | none =>
        rw [z] at k'
        refine oth (fun i h => by rw [z] at h; cases h) ?_
        cases z' : ow' a with
        | none => rw [z'] at k'; cases k'
        | some y =>
          cases y with
          | inl _ => rw [z'] at k'; cases k'
          | inr n => exact ⟨n, rfl⟩
      | some y =>
        cases y with
        | inl i => exact own i z
        | inr m =>
          rw [z] at k'
          refine oth (fun i h => by rw [z] at h; cases h) ?_
          cases z' : ow' a with
          | none => rw [z'] at k'; cases k'
          | some y =>
            cases y with
            | inl _ => rw [z'] at k'; cases k'
            | inr n => exact ⟨n, rfl⟩
    · refine (e.slot i s k).mono eS er fun b m => ?_
      obtain ⟨_, _, o, m3⟩ := e.ows b _ m
      refine ⟨?_, ?_⟩
      · show (match ow b with | some (.inl i) => some (Sum.inl i) | _ => _) = _
        rw [m]
      · have m4 : F' b = some o := by
          rw [f1 b i m]
          exact m3
        rw [(e'.fr b o m4).1, m3]
    · refine (e'.wob n o k).mono (Evl.Ex.refl _) (Rle.refl _) fun b m => ⟨?_, rfl⟩
      obtain ⟨m1, m2, m3⟩ := e'.ows b _ m
      show (match ow b with | some (.inl i) => some (Sum.inl i) | _ => (match ow' b with | some (.inr n) => some (.inr n) | _ => none)) = _
      cases z : ow b with
      | none => rw [m]
      | some y =>
        cases y with
        | inl i =>
          obtain ⟨_, _, o, m4⟩ := e.ows b _ z
          rw [f1 b i z, m4] at m2
          cases m2
        | inr _ =>
          show (match ow' b with | some (.inr n) => some (Sum.inr n) | _ => none) = _
          rw [m]
end
end Den

namespace Den
open PySem L2
open Evl (Ex)

/-! ### what an expression is worth -/
abbrev Rs (a : Type) := Except Value a × Stt
abbrev ME (a : Type) := Stt → Option (Rs a)
def ret {a : Type} (x : a) : ME a := fun q => some (.ok x, q)
def bnd {a b : Type} (f : ME a) (g : a → ME b) : ME b := fun q => match f q with
  | none => none
  | some (.error c, q') => some (.error c, q')
  | some (.ok x, q') => g x q'
def lft {a : Type} (o : Option a) : ME a := fun q => match o with | none => none | some x => some (.ok x, q)
theorem bnd_eq {a b : Type} (f : ME a) (g : a → ME b) (q : Stt) : bnd f g q = match f q with
  | none => none
  | some (.error c, q') => some (.error c, q')
  | some (.ok x, q') => g x q' := rfl
theorem bnd_ok {a b : Type} {f : ME a} {g : a → ME b} {q q' : Stt} {x : a} (h : f q = some (.ok x, q')) : bnd f g q = g x q' := by
  rw [bnd_eq, h]
theorem ret_eq {a : Type} (x : a) (q : Stt) : ret x q = some (.ok x, q) := rfl
theorem lft_some {a : Type} (x : a) (q : Stt) : lft (some x) q = some (.ok x, q) := rfl
/-- a representation -/
abbrev RP (a t : Type) := Hp → List Addr → a → t → Prop
def Mono {a t : Type} (rep : RP a t) : Prop := ∀ (S S' : Hp) (r r' : List Addr) (x : a) (v : t), Ex S S' → Rle r r' → rep S r x v → rep S' r' x v
def Post {a t : Type} (rep : RP a t) (K : PySem.W.Frag) (W : WX) (F S : Hp) (r : List Addr) (σ : L2.St) (z : Rs a) (Q : t → Hp → Prop) : Prop :=
  match z with
  | (.ok x, q') => ∀ v S' H' r', Ex S S' → Rle r r' → Env K F S' H' r' σ q' → rep S' r' x v → Q v H'
  | (.error c, q') => ∀ S' H' r', Ex S S' → Rle r r' → Env K F S' H' r' σ q' → W c none σ H'
abbrev TX (t : Type) := L2.St → Hp → (t → Hp → Prop) → Prop
def Tok {a t : Type} (rep : RP a t) (K : PySem.W.Frag) (W : WX) (te : TX t) (f : ME a) : Prop :=
  ∀ F S H r σ q z, Env K F S H r σ q → f q = some z → ∀ Q, Post rep K W F S r σ z Q → te σ H Q
section
variable {a b t u : Type} {rep : RP a t} {rep2 : RP b u} {K : PySem.W.Frag} {W : WX} {te : TX t} {f : ME a} {g : a → ME b} {F S S' H : Hp} {r r' : List Addr} {σ : L2.St} {z : Rs a} {Q : t → Hp → Prop}
theorem Post.mono (e : Ex S S') (k : Rle r r') (h : Post rep K W F S r σ z Q) : Post rep K W F S' r' σ z Q := by
  obtain ⟨x, q⟩ := z
  cases x with
  | error c => exact fun S2 H2 r2 e2 k2 E => h S2 H2 r2 (e.trans e2) (k.trans k2) E
  | ok x => exact fun v S2 H2 r2 e2 k2 E rp => h v S2 H2 r2 (e.trans e2) (k.trans k2) E rp
/-- what comes behind the first value -/
def Beh (rep : RP a t) (rep2 : RP b u) (K : PySem.W.Frag) (W : WX) (t2 : t → TX u) (g : a → ME b) : Prop :=
  ∀ x v F S H r σ q z, Env K F S H r σ q → rep S r x v → g x q = some z → ∀ Q, Post rep2 K W F S r σ z Q → t2 v σ H Q
theorem Tok.bind {t2 : t → TX u} (h1 : Tok rep K W te f) (h2 : Beh rep rep2 K W t2 g) : Tok rep2 K W (fun σ H Q => te σ H fun v H1 => t2 v σ H1 Q) (bnd f g) := by
  intro F S H r σ q z E hz Q P
  rw [bnd_eq] at hz
  cases e : f q with
  | none => rw [e] at hz; cases hz
  | some z1 =>
    obtain ⟨x, q1⟩ := z1
    rw [e] at hz
    cases x with
    | error c =>
      cases hz
      exact h1 F S H r σ q _ E e _ P
    | ok x => exact h1 F S H r σ q _ E e _ fun v S1 H1 r1 e1 k1 E1 rp => h2 x v F S1 H1 r1 σ q1 z E1 rp hz Q (P.mono e1 k1)
/-- the same, the second part's own judgement, the first value kept -/
theorem Beh.bind {c w : Type} {rep3 : RP c w} {t2 : TX u} {g2 : ME b} {t3 : t → u → TX w} {g3 : a → b → ME c} (m : Mono rep) (h1 : Tok rep2 K W t2 g2)
    (h2 : ∀ x v y w' F S H r σ q z, Env K F S H r σ q → rep S r x v → rep2 S r y w' → g3 x y q = some z → ∀ Q, Post rep3 K W F S r σ z Q → t3 v w' σ H Q) :
    Beh rep rep3 K W (fun v σ H Q => t2 σ H fun w' H1 => t3 v w' σ H1 Q) (fun x => bnd g2 (g3 x)) := by
  intro x v F S H r σ q z E rp hz0 Q P
  have hz : bnd g2 (g3 x) q = some z := hz0
  rw [bnd_eq] at hz
  cases e : g2 q with
  | none => rw [e] at hz; cases hz
  | some z1 =>
    obtain ⟨y, q1⟩ := z1
    rw [e] at hz
    cases y with
    | error c =>
      cases hz
      exact h1 F S H r σ q _ E e _ P
    | ok y => exact h1 F S H r σ q _ E e _ fun w' S1 H1 r1 e1 k1 E1 rp1 => h2 x v y w' F S1 H1 r1 σ q1 z E1 (m _ _ _ _ _ _ e1 k1 rp) rp1 hz Q (P.mono e1 k1)
end
/-! ### the representations -/
abbrev RX (K : PySem.W.Frag) : RP XV V := fun S r x v => XRep K S r x v
abbrev RXL (K : PySem.W.Frag) : RP (List XV) (List V) := fun S r x v => XRepL K S r x v
abbrev RB : RP Bool Bool := fun _ _ x v => x = v
theorem monoX {K : PySem.W.Frag} : Mono (RX K) := fun _ _ _ _ _ _ e k h => XRep.mono e k h
theorem monoXL {K : PySem.W.Frag} : Mono (RXL K) := fun _ _ _ _ _ _ e k h => XRepL.mono e k h
theorem monoB : Mono RB := fun _ _ _ _ _ _ _ _ h => h

structure IsE (X : Cx) (W : WX) (e : Expr) (t : TE) (f : ME XV) : Prop where
  pe : PE X e t
  ok : Tok (RX X.K) X.K W t f
structure IsA (X : Cx) (W : WX) (es : List Expr) (t : TA) (f : ME (List XV)) : Prop where
  pa : PA X es t
  ok : Tok (RXL X.K) X.K W t f
structure IsT (X : Cx) (W : WX) (e : Expr) (t : TT) (f : ME Bool) : Prop where
  pt : PT X e t
  ok : Tok RB X.K W t f
structure IsW (X : Cx) (W : WX) (e : Expr) (t : TT) (f : ME Bool) : Prop where
  pw : PW X e t
  ok : Tok RB X.K W t f

section
variable {K : PySem.W.Frag} {F F' S S' H H' : Hp} {r r' : List Addr} {σ σ' : L2.St} {q q' : Stt} {i n : Nat} {p a : Addr} {o o' : HO}
theorem set_self' {σ : L2.St} {i : Nat} {x : Option V} (h : σ[i]? = some x) : σ.set i x = σ := by
  apply List.ext_getElem?
  intro j
  by_cases e : i = j
  · subst e
    have hl := (List.getElem?_eq_some_iff.mp h).1
    rw [List.getElem?_set_self hl, h]
  · rw [List.getElem?_set_ne e]
/-- an owned list is written no more -/
theorem Env.freeze {ds : List D} (E : Env K F S H r σ q) (h : q.sl[i]? = some (.ol ds)) :
    ∃ S' v, Ex S S' ∧ σ[i]? = some (some v) ∧ Rep K S' (.lst ds) v ∧ Env K F S' H r σ { q with sl := q.sl.set i (.dat (.lst ds)) } := by
  obtain ⟨a, o, ha, hH, hF, E1, ow, hw, hs⟩ := E.disown h fun ow hk => by
    obtain ⟨a, vs, h1, h2, h3, h4⟩ := hk
    refine ⟨a, _, ?_, h2, h3⟩
    cases e : σ[i]? with
    | none => rw [e] at h1; cases h1
    | some x => rw [e] at h1; exact congrArg some h1
  obtain ⟨a', vs, h1, h2, h3, h4⟩ := hs
  cases h1
  rw [hH] at h3
  cases h3
  obtain ⟨E2, ex⟩ := E1.settle hF
  have rp : Rep K (upd S a (.lst vs)) (.lst ds) (.ref a) := by
    rw [Rep]
    exact ⟨a, vs, rfl, upd_same, RepL.mono ex _ _ h4⟩
  refine ⟨_, .ref a, ex, ha, rp, ?_⟩
  have hl := (List.getElem?_eq_some_iff.mp h).1
  have E3 := E2.putD i rp (by simpa using hl)
  rw [set_self' ha] at E3
  have e : ({ sl := (q.sl.set i .un).set i (.dat (.lst ds)), w := q.w } : Stt) = { q with sl := q.sl.set i (.dat (.lst ds)) } := by rw [List.set_set]
  rw [← e]
  exact E3
theorem Env.freezeK {ks : List Key} {ds : List D} (E : Env K F S H r σ q) (h : q.sl[i]? = some (.od ks ds)) :
    ∃ S' v, Ex S S' ∧ σ[i]? = some (some v) ∧ Rep K S' (.dic ks ds) v ∧ Env K F S' H r σ { q with sl := q.sl.set i (.dat (.dic ks ds)) } := by
  obtain ⟨a, o, ha, hH, hF, E1, ow, hw, hs⟩ := E.disown h fun ow hk => by
    obtain ⟨a, vs, h1, h2, h3, h4⟩ := hk
    refine ⟨a, _, ?_, h2, h3⟩
    cases e : σ[i]? with
    | none => rw [e] at h1; cases h1
    | some x => rw [e] at h1; exact congrArg some h1
  obtain ⟨a', vs, h1, h2, h3, h5, h4⟩ := hs
  cases h1
  rw [hH] at h3
  cases h3
  obtain ⟨E2, ex⟩ := E1.settle hF
  have rp : Rep K (upd S a (.dK (ks.zip vs))) (.dic ks ds) (.ref a) := by
    rw [Rep]
    exact ⟨a, vs, rfl, upd_same, h5, RepL.mono ex _ _ h4⟩
  refine ⟨_, .ref a, ex, ha, rp, ?_⟩
  have hl := (List.getElem?_eq_some_iff.mp h).1
  have E3 := E2.putD i rp (by simpa using hl)
  rw [set_self' ha] at E3
  have e : ({ sl := (q.sl.set i .un).set i (.dat (.dic ks ds)), w := q.w } : Stt) = { q with sl := q.sl.set i (.dat (.dic ks ds)) } := by rw [List.set_set]
  rw [← e]
  exact E3
theorem Env.freezeT {ks : List (List Key)} {ds : List D} (E : Env K F S H r σ q) (h : q.sl[i]? = some (.ot ks ds)) :
    ∃ S' v, Ex S S' ∧ σ[i]? = some (some v) ∧ Rep K S' (.dit ks ds) v ∧ Env K F S' H r σ { q with sl := q.sl.set i (.dat (.dit ks ds)) } := by
  obtain ⟨a, o, ha, hH, hF, E1, ow, hw, hs⟩ := E.disown h fun ow hk => by
    obtain ⟨a, vs, h1, h2, h3, h4⟩ := hk
    refine ⟨a, _, ?_, h2, h3⟩
    cases e : σ[i]? with
    | none => rw [e] at h1; cases h1
    | some x => rw [e] at h1; exact congrArg some h1
  obtain ⟨a', vs, h1, h2, h3, h5, h4⟩ := hs
  cases h1
  rw [hH] at h3
  cases h3
  obtain ⟨E2, ex⟩ := E1.settle hF
  have rp : Rep K (upd S a (.dT (ks.zip vs))) (.dit ks ds) (.ref a) := by
    rw [Rep]
    exact ⟨a, vs, rfl, upd_same, h5, RepL.mono ex _ _ h4⟩
  refine ⟨_, .ref a, ex, ha, rp, ?_⟩
  have hl := (List.getElem?_eq_some_iff.mp h).1
  have E3 := E2.putD i rp (by simpa using hl)
  rw [set_self' ha] at E3
  have e : ({ sl := (q.sl.set i .un).set i (.dat (.dit ks ds)), w := q.w } : Stt) = { q with sl := q.sl.set i (.dat (.dit ks ds)) } := by rw [List.set_set]
  rw [← e]
  exact E3
end
def eVar (i : Nat) : ME XV := fun q => match q.sl[i]? with
  | some (.dat d) => some (.ok (.d d), q)
  | some (.hnd n) => some (.ok (.h n), q)
  | some (.ol ds) => some (.ok (.d (.lst ds)), { q with sl := q.sl.set i (.dat (.lst ds)) })
  | some (.od ks ds) => some (.ok (.d (.dic ks ds)), { q with sl := q.sl.set i (.dat (.dic ks ds)) })
  | some (.ot ks ds) => some (.ok (.d (.dit ks ds)), { q with sl := q.sl.set i (.dat (.dit ks ds)) })
  | _ => none
theorem tok_var {K : PySem.W.Frag} {W : WX} (i : Nat) : Tok (RX K) K W (tVar i) (eVar i) := by
  intro F S H r σ q z E hz Q P
  unfold eVar at hz
  cases e : q.sl[i]? with
  | none => rw [e] at hz; cases hz
  | some s =>
    rw [e] at hz
    cases s with
    | un => cases hz
    | dat d =>
      cases hz
      obtain ⟨ow, e0⟩ := id E
      obtain ⟨v, h1, h2⟩ := e0.slot i _ e
      refine ⟨v, ?_, P v S H r (Ex.refl _) (Rle.refl _) E h2⟩
      cases e1 : σ[i]? with
      | none => rw [e1] at h1; cases h1
      | some x => rw [e1] at h1; exact congrArg some h1
    | hnd n =>
      cases hz
      obtain ⟨ow, e0⟩ := id E
      obtain ⟨a, h1, h2⟩ := e0.slot i _ e
      refine ⟨.ref a, ?_, P (.ref a) S H r (Ex.refl _) (Rle.refl _) E ⟨a, h1, rfl⟩⟩
      cases e1 : σ[i]? with
      | none => rw [e1] at h2; cases h2
      | some x => rw [e1] at h2; exact congrArg some h2
    | ol ds =>
      cases hz
      obtain ⟨S', v, ex, hv, rp, E'⟩ := E.freeze e
      exact ⟨v, hv, P v S' H r ex (Rle.refl _) E' rp⟩
    | od ks ds =>
      cases hz
      obtain ⟨S', v, ex, hv, rp, E'⟩ := E.freezeK e
      exact ⟨v, hv, P v S' H r ex (Rle.refl _) E' rp⟩
    | ot ks ds =>
      cases hz
      obtain ⟨S', v, ex, hv, rp, E'⟩ := E.freezeT e
      exact ⟨v, hv, P v S' H r ex (Rle.refl _) E' rp⟩
section
variable {X : Cx} {W : WX} {e e1 e2 e3 : Expr} {es : List Expr} {t t1 t2 t3 : TE} {ta : TA} {f f1 f2 f3 : ME XV} {fa : ME (List XV)} {pos : Pos} {tt tt1 tt2 : TT} {g g1 g2 : ME Bool}
theorem is_v (i : Nat) {x : Str} (hN : X.N[i]? = some x := by rfl) (hv : Vis X.env.scope x := by first | exact Or.inl rfl | exact Or.inr (Or.inl rfl) | exact Or.inr (Or.inr rfl)) (hd : (x == ("__debug__" : Str)) = false := by decide)
    (hcd : (x == ("__classdict__" : Str)) = false := by decide) : IsE X W (.Name x pos) (tVar i) (eVar i) := ⟨pe_var hN hv hd hcd, tok_var i⟩
def eC (d : D) : ME XV := ret (.d d)
theorem tok_c {K : PySem.W.Frag} {d : D} {v : V} (h : ∀ S, Rep K S d v) : Tok (RX K) K W (tC v) (eC d) := by
  intro F S H r σ q z E hz Q P
  cases hz
  exact P v S H r (Ex.refl _) (Rle.refl _) E (h S)
theorem is_int {i : Int} {j} : IsE X W (.Constant (.int i) j pos) (tC (.int i)) (eC (.int i)) := ⟨pe_int, tok_c fun S => by rw [Rep]⟩
theorem is_bl {b : Bool} {j} : IsE X W (.Constant (.bool b) j pos) (tC (.bl b)) (eC (.bl b)) := ⟨pe_bl, tok_c fun S => by rw [Rep]⟩
theorem is_non {j} : IsE X W (.Constant .none j pos) (tC .non) (eC .non) := ⟨pe_non, tok_c fun S => by rw [Rep]⟩
theorem is_str {s : Str} {j} : IsE X W (.Constant (.str s) j pos) (tC (.str s)) (eC (.str s)) := ⟨pe_str, tok_c fun S => by rw [Rep]⟩

/-! ### operators on values -/
/-- what a value is worth just now: a list or a dict by what it holds in H -/
def RepH (K : PySem.W.Frag) (S H : Hp) : D → V → Prop
  | .lst ds, v => ∃ a vs, v = .ref a ∧ H a = some (.lst vs) ∧ RepL K S ds vs
  | .dic ks ds, v => ∃ a vs, v = .ref a ∧ H a = some (.dK (ks.zip vs)) ∧ ks.length = ds.length ∧ RepL K S ds vs
  | .dit ks ds, v => ∃ a vs, v = .ref a ∧ H a = some (.dT (ks.zip vs)) ∧ ks.length = ds.length ∧ RepL K S ds vs
  | d, v => Rep K S d v
theorem Rep.toH {K : PySem.W.Frag} {S H : Hp} (e : Ex S H) {d : D} {v : V} (h : Rep K S d v) : RepH K S H d v := by
  cases d with
  | lst ds =>
    rw [Rep] at h
    obtain ⟨a, vs, h1, h2, h3⟩ := h
    exact ⟨a, vs, h1, e _ _ h2, h3⟩
  | dic ks ds =>
    rw [Rep] at h
    obtain ⟨a, vs, h1, h2, h3, h4⟩ := h
    exact ⟨a, vs, h1, e _ _ h2, h3, h4⟩
  | dit ks ds =>
    rw [Rep] at h
    obtain ⟨a, vs, h1, h2, h3, h4⟩ := h
    exact ⟨a, vs, h1, e _ _ h2, h3, h4⟩
  | _ => exact h
def RepHL (K : PySem.W.Frag) (S H : Hp) : List D → List V → Prop
  | [], vs => vs = []
  | d :: ds, vs => ∃ v t, vs = v :: t ∧ RepH K S H d v ∧ RepHL K S H ds t
theorem RepL.toH {K : PySem.W.Frag} {S H : Hp} (e : Ex S H) : ∀ {ds : List D} {vs : List V}, RepL K S ds vs → RepHL K S H ds vs
  | [], vs, h => by
    rw [RepL] at h
    exact h
  | d :: ds, vs, h => by
    rw [RepL] at h
    obtain ⟨v, r, h1, h2, h3⟩ := h
    exact ⟨v, r, h1, h2.toH e, h3.toH e⟩
def R2ok (K : PySem.W.Frag) (r2 : R2) (g : D → D → Option D) : Prop :=
  ∀ F S H r σ q x y z vx vy, Env K F S H r σ q → RepH K S H x vx → RepH K S H y vy → g x y = some z → ∀ Q : VK, (∀ v S' H', Ex S S' → Env K F S' H' r σ q → Rep K S' z v → Q v H') → r2 vx vy H Q
def op2 (g : D → D → Option D) : XV → XV → Option XV
  | .d x, .d y => (g x y).map .d
  | _, _ => none
def eOp (g : D → D → Option D) (fa fb : ME XV) : ME XV := bnd fa fun x => bnd fb fun y => lft (op2 g x y)
theorem tok_op {K : PySem.W.Frag} {r2 : R2} {g : D → D → Option D} (hr : R2ok K r2 g) (h1 : Tok (RX K) K W t1 f1) (h2 : Tok (RX K) K W t2 f2) : Tok (RX K) K W (tOp r2 t1 t2) (eOp g f1 f2) := by
  refine Tok.bind (t2 := fun x σ H Q => t2 σ H fun y H1 => r2 x y H1 Q) h1 (Beh.bind (t3 := fun x y σ H Q => r2 x y H Q) monoX h2 fun x v y w F S H r σ q z E rx ry hz Q P => ?_)
  cases x with
  | h n => cases hz
  | d x =>
    cases y with
    | h n => cases hz
    | d y =>
      have hz' : lft ((g x y).map XV.d) q = some z := hz
      cases eg : g x y with
      | none => rw [eg] at hz'; cases hz'
      | some w =>
        rw [eg] at hz'
        cases hz'
        exact hr F S H r σ q x y w v _ E (Rep.toH E.sub rx) (Rep.toH E.sub ry) eg Q fun v' S' H' ex E' rp => P v' S' H' r ex (Rle.refl _) E' rp
theorem is_op {op : Operator} {r2 : R2} {g : D → D → Option D} (ho : OpR X (binaryOp op) r2) (hr : R2ok X.K r2 g) (h1 : IsE X W e1 t1 f1) (h2 : IsE X W e2 t2 f2) : IsE X W (.BinOp e1 op e2 pos) (tOp r2 t1 t2) (eOp g f1 f2) :=
  ⟨pe_op ho h1.pe h2.pe, tok_op hr h1.ok h2.ok⟩
theorem is_cmp {op : CmpOp} {r2 : R2} {g : D → D → Option D} (ho : OpR X (compareOp op) r2) (hr : R2ok X.K r2 g) (h1 : IsE X W e1 t1 f1) (h2 : IsE X W e2 t2 f2) (hm : behindInMarks op e2 = false) : IsE X W (.Compare e1 [op] [e2] pos) (tOp r2 t1 t2) (eOp g f1 f2) :=
  ⟨pe_cmpR ho h1.pe h2.pe hm, tok_op hr h1.ok h2.ok⟩
def toB : XV → Option Bool
  | .d (.bl b) => some b
  | _ => none
def tOf (f : ME XV) : ME Bool := bnd f fun x => lft (toB x)
theorem tok_test {K : PySem.W.Frag} (h : Tok (RX K) K W t f) : Tok RB K W (tTest t) (tOf f) := by
  refine Tok.bind (t2 := fun x σ H Q => ∃ k, x = .bl k ∧ Q k H) h fun x v F S H r σ q z E rx hz Q P => ?_
  cases x with
  | h n => cases hz
  | d x =>
    cases x with
    | bl b =>
      cases hz
      have e : v = .bl b := by
        have q : Rep K S (.bl b) v := rx
        rw [Rep] at q
        exact q
      exact ⟨b, e, P b S H r (Ex.refl _) (Rle.refl _) E rfl⟩
    | _ => cases hz
theorem is_tcmp {op : CmpOp} {r2 : R2} {g : D → D → Option D} (ho : OpR X (compareOp op) r2) (hr : R2ok X.K r2 g) (h1 : IsE X W e1 t1 f1) (h2 : IsE X W e2 t2 f2) (hm : behindInMarks op e2 = false) : IsT X W (.Compare e1 [op] [e2] pos) (tTest (tOp r2 t1 t2)) (tOf (eOp g f1 f2)) :=
  ⟨pt_cmpR ho h1.pe h2.pe hm, tok_test (tok_op hr h1.ok h2.ok)⟩
theorem is_tval (h : IsE X W e t f) (he : ∀ whole, isTrue e X.env whole = (do let v ← whole; standAt e.pos; holding [v] (truthy v)) := by intro _; rfl) : IsT X W e (tB t) (tOf f) :=
  ⟨pt_val h.pe he, tok_test h.ok⟩
/-! ### and, or, not -/
def tAndB (f g : ME Bool) : ME Bool := bnd f fun b => if b then g else ret false
def tOrB (f g : ME Bool) : ME Bool := bnd f fun b => if b then ret true else g
def tNotB (f : ME Bool) : ME Bool := bnd f fun b => ret (!b)
theorem tok_and {K : PySem.W.Frag} (h1 : Tok RB K W tt1 g1) (h2 : Tok RB K W tt2 g2) : Tok RB K W (tAnd tt1 tt2) (tAndB g1 g2) := by
  refine Tok.bind (t2 := fun c σ H Q => if c = true then tt2 σ H Q else Q false H) h1 fun x v F S H r σ q z E rx hz Q P => ?_
  have e : x = v := rx
  subst e
  cases x with
  | true => exact iteT (h2 F S H r σ q z E hz Q P)
  | false =>
    cases hz
    exact iteF (P false S H r (Ex.refl _) (Rle.refl _) E rfl)
theorem tok_or {K : PySem.W.Frag} (h1 : Tok RB K W tt1 g1) (h2 : Tok RB K W tt2 g2) : Tok RB K W (tOr tt1 tt2) (tOrB g1 g2) := by
  refine Tok.bind (t2 := fun c σ H Q => if c = true then Q true H else tt2 σ H Q) h1 fun x v F S H r σ q z E rx hz Q P => ?_
  have e : x = v := rx
  subst e
  cases x with
  | false => exact iteF (h2 F S H r σ q z E hz Q P)
  | true =>
    cases hz
    exact iteT (P true S H r (Ex.refl _) (Rle.refl _) E rfl)
theorem tok_not {K : PySem.W.Frag} (h1 : Tok RB K W tt1 g1) : Tok RB K W (tNot tt1) (tNotB g1) := by
  refine Tok.bind (t2 := fun c σ H Q => Q (!c) H) h1 fun x v F S H r σ q z E rx hz Q P => ?_
  have e : x = v := rx
  subst e
  cases hz
  exact P (!x) S H r (Ex.refl _) (Rle.refl _) E rfl
theorem is_wand1 (h : IsT X W e tt g) : IsW X W (.BoolOp .And [e] pos) tt g := ⟨pw_and1 h.pt, h.ok⟩
theorem is_wor1 (h : IsT X W e tt g) : IsW X W (.BoolOp .Or [e] pos) tt g := ⟨pw_or1 h.pt, h.ok⟩
theorem is_wand (h1 : IsT X W e tt1 g1) (h2 : IsW X W (.BoolOp .And (e2 :: es) pos) tt2 g2) : IsW X W (.BoolOp .And (e :: e2 :: es) pos) (tAnd tt1 tt2) (tAndB g1 g2) := ⟨pw_and h1.pt h2.pw, tok_and h1.ok h2.ok⟩
theorem is_wor (h1 : IsT X W e tt1 g1) (h2 : IsW X W (.BoolOp .Or (e2 :: es) pos) tt2 g2) : IsW X W (.BoolOp .Or (e :: e2 :: es) pos) (tOr tt1 tt2) (tOrB g1 g2) := ⟨pw_or h1.pt h2.pw, tok_or h1.ok h2.ok⟩
theorem is_tw (h : IsW X W e tt g) : IsT X W e tt g := ⟨h.pw.pt, h.ok⟩
theorem is_tnot (h : IsT X W e tt g) : IsT X W (.UnaryOp .Not e pos) (tNot tt) (tNotB g) := ⟨pt_not h.pt, tok_not h.ok⟩
def ofB (g : ME Bool) : ME XV := bnd g fun b => ret (.d (.bl b))
/-- and, or, not as values of truths -/
theorem tok_andV {K : PySem.W.Frag} (h1 : Tok (RX K) K W t1 f1) (h2 : Tok (RX K) K W t2 f2) : Tok (RX K) K W (tAndV t1 t2) (bnd (tOf f1) fun b => if b then f2 else ret (.d (.bl false))) := by
  intro F S H r σ q z E hz Q P
  refine Tok.bind (t2 := fun c σ H Q => if c = true then t2 σ H Q else Q (.bl false) H) (tok_test h1) (fun x v F S H r σ q z E rx hz Q P => ?_) F S H r σ q z E hz Q P
  have e : x = v := rx
  subst e
  cases x with
  | true => exact iteT (h2 F S H r σ q z E hz Q P)
  | false =>
    cases hz
    exact iteF (P (.bl false) S H r (Ex.refl _) (Rle.refl _) E (show Rep K S (.bl false) (.bl false) by rw [Rep]))
theorem tok_orV {K : PySem.W.Frag} (h1 : Tok (RX K) K W t1 f1) (h2 : Tok (RX K) K W t2 f2) : Tok (RX K) K W (tOrV t1 t2) (bnd (tOf f1) fun b => if b then ret (.d (.bl true)) else f2) := by
  intro F S H r σ q z E hz Q P
  refine Tok.bind (t2 := fun c σ H Q => if c = true then Q (.bl true) H else t2 σ H Q) (tok_test h1) (fun x v F S H r σ q z E rx hz Q P => ?_) F S H r σ q z E hz Q P
  have e : x = v := rx
  subst e
  cases x with
  | false => exact iteF (h2 F S H r σ q z E hz Q P)
  | true =>
    cases hz
    exact iteT (P (.bl true) S H r (Ex.refl _) (Rle.refl _) E (show Rep K S (.bl true) (.bl true) by rw [Rep]))
end
end Den

namespace Den
open PySem L2
open Evl (Ex)
section
variable {X : Cx} {W : WX} {e e1 e2 e3 : Expr} {es : List Expr} {t t1 t2 t3 : TE} {ta : TA} {f f1 f2 f3 : ME XV} {fa : ME (List XV)} {pos : Pos} {tt tt1 tt2 : TT} {g g1 g2 : ME Bool} {K : PySem.W.Frag}
/-! ### if-expressions, argument lists, displays -/
theorem tok_if (h : Tok RB K W tt g) (h1 : Tok (RX K) K W t1 f1) (h2 : Tok (RX K) K W t2 f2) : Tok (RX K) K W (tIf tt t1 t2) (bnd g fun b => if b then f1 else f2) := by
  refine Tok.bind (t2 := fun c σ H Q => if c = true then t1 σ H Q else t2 σ H Q) h fun x v F S H r σ q z E rx hz Q P => ?_
  have e : x = v := rx
  subst e
  cases x with
  | true => exact iteT (h1 F S H r σ q z E hz Q P)
  | false => exact iteF (h2 F S H r σ q z E hz Q P)
theorem is_if {c : Expr} (h : IsT X W c tt g) (h1 : IsE X W e1 t1 f1) (h2 : IsE X W e2 t2 f2) : IsE X W (.IfExp c e1 e2 pos) (tIf tt t1 t2) (bnd g fun b => if b then f1 else f2) := ⟨pe_ifExp h.pt h1.pe h2.pe, tok_if h.ok h1.ok h2.ok⟩
theorem is_eand1 {op} (h : IsE X W e t f) : IsE X W (.BoolOp op [e] pos) t f := ⟨pe_one h.pe, h.ok⟩
theorem is_eand (h1 : IsE X W e1 t1 f1) (h2 : IsE X W (.BoolOp .And (e2 :: es) pos) t2 f2) : IsE X W (.BoolOp .And (e1 :: e2 :: es) pos) (tAndV t1 t2) (bnd (tOf f1) fun b => if b then f2 else ret (.d (.bl false))) := ⟨pe_and h1.pe h2.pe, tok_andV h1.ok h2.ok⟩
theorem is_eor (h1 : IsE X W e1 t1 f1) (h2 : IsE X W (.BoolOp .Or (e2 :: es) pos) t2 f2) : IsE X W (.BoolOp .Or (e1 :: e2 :: es) pos) (tOrV t1 t2) (bnd (tOf f1) fun b => if b then ret (.d (.bl true)) else f2) := ⟨pe_or h1.pe h2.pe, tok_orV h1.ok h2.ok⟩
theorem is_enot (h1 : IsE X W e1 t1 f1) : IsE X W (.UnaryOp .Not e1 pos) (tNotV t1) (bnd (tOf f1) fun b => ret (.d (.bl (!b)))) := by
  refine ⟨pe_not h1.pe, fun F S H r σ q z E hz Q P => ?_⟩
  refine Tok.bind (t2 := fun c σ H Q => Q (.bl (!c)) H) (rep2 := RX X.K) (tok_test h1.ok) (fun x v F S H r σ q z E rx hz Q P => ?_) F S H r σ q z E hz Q P
  have e : x = v := rx
  subst e
  cases hz
  exact P (.bl (!x)) S H r (Ex.refl _) (Rle.refl _) E (show Rep X.K S (.bl (!x)) (.bl (!x)) by rw [Rep])
def aNil : ME (List XV) := ret []
def aCons (f : ME XV) (fa : ME (List XV)) : ME (List XV) := bnd f fun x => bnd fa fun xs => ret (x :: xs)
theorem is_anil : IsA X W [] tNil aNil := ⟨pa_nil, fun F S H r σ q z E hz Q P => by
  cases hz
  exact P [] S H r (Ex.refl _) (Rle.refl _) E rfl⟩
theorem is_acons (h : IsE X W e t f) (h1 : IsA X W es ta fa) (hs : starEach (e :: es) X.env = (false, eval e X.env) :: starEach es X.env := by rfl) : IsA X W (e :: es) (tCons t ta) (aCons f fa) := by
  refine ⟨pa_cons h.pe h1.pa hs, ?_⟩
  refine Tok.bind (t2 := fun x σ H Q => ta σ H fun xs H1 => Q (x :: xs) H1) h.ok (Beh.bind (t3 := fun x xs σ H Q => Q (x :: xs) H) monoX h1.ok fun x v y w F S H r σ q z E rx ry hz Q P => ?_)
  cases hz
  exact P (v :: w) S H r (Ex.refl _) (Rle.refl _) E ⟨v, w, rfl, rx, ry⟩
def allD : List XV → Option (List D)
  | [] => some []
  | .d d :: xs => (allD xs).map (d :: ·)
  | .h _ :: _ => none
theorem allD_rep {S : Hp} {r : List Addr} : ∀ {xs : List XV} {ds : List D} {vs : List V}, allD xs = some ds → XRepL K S r xs vs → RepL K S ds vs
  | [], ds, vs, h, k => by
    cases h
    rw [RepL]
    exact k
  | .h _ :: _, _, _, h, _ => by cases h
  | .d d :: xs, ds, vs, h, k => by
    obtain ⟨v, t, rfl, k1, k2⟩ := k
    unfold allD at h
    cases e : allD xs with
    | none => rw [e] at h; cases h
    | some es =>
      rw [e] at h
      cases h
      exact RepL.cons k1 (allD_rep e k2)
theorem allD_map : ∀ ds : List D, allD (ds.map XV.d) = some ds
  | [] => rfl
  | d :: ds => by
    show (allD (ds.map XV.d)).map _ = _
    rw [allD_map ds]
    rfl
def big : Nat := 100000
theorem big_line {n : Nat} (h : n ≤ big) : n ≤ sizeLine := Nat.le_trans h (by decide)
def eTup (fa : ME (List XV)) : ME XV := bnd fa fun xs => lft ((allD xs).bind fun ds => if ds.length ≤ big then some (.d (.tup ds)) else none)
theorem lftb {a b : Type} {o : Option a} {k : a → Option b} {q : Stt} {z : Rs b} (h : lft (o.bind k) q = some z) : ∃ x y, o = some x ∧ k x = some y ∧ z = (.ok y, q) := by
  cases e : o with
  | none => rw [e] at h; cases h
  | some x =>
    rw [e] at h
    have h' : lft (k x) q = some z := h
    cases e2 : k x with
    | none => rw [e2] at h'; cases h'
    | some y =>
      rw [e2] at h'
      cases h'
      exact ⟨x, y, rfl, e2, rfl⟩
theorem ifs {a : Type} {c : Prop} [Decidable c] {x y : a} (h : (if c then some x else none) = some y) : c ∧ x = y := by
  by_cases k : c
  · rw [if_pos k] at h
    exact ⟨k, Option.some.inj h⟩
  · rw [if_neg k] at h
    cases h
theorem is_tup {x1} (h : IsA X W es ta fa) : IsE X W (.Tuple es x1 pos) (tTup ta) (eTup fa) := by
  refine ⟨pe_tup h.pa, ?_⟩
  refine Tok.bind (t2 := fun (xs : List V) (σ : L2.St) (H : Hp) (Q : VK) => xs.length ≤ sizeLine ∧ ∀ p, H p = none → Q (V.ref p) (upd H p (.tup xs))) h.ok fun x v F S H r σ q z E rx hz Q P => ?_
  obtain ⟨ds, y, e1, e2, e3⟩ := lftb hz
  obtain ⟨hl, e4⟩ := ifs e2
  subst e3
  subst e4
  have rp := allD_rep e1 rx
  refine ⟨by rw [← rp.length]; exact big_line hl, fun p hp => ?_⟩
  obtain ⟨E2, ex⟩ := (E.add hp (.tup v)).settle (E.newF hp)
  refine P (.ref p) _ _ r ex (Rle.refl _) E2 ?_
  show Rep X.K _ (.tup ds) _
  rw [Rep]
  exact ⟨p, v, rfl, SqT.of upd_same, RepL.mono ex _ _ rp⟩
end

/-! ### a fresh list -/
def PostL (K : PySem.W.Frag) (W : WX) (F S : Hp) (r : List Addr) (σ : L2.St) (z : Rs (List D)) (Q : VK) : Prop :=
  match z with
  | (.ok ds, q') => ∀ p vs S' H' r', Ex S S' → Rle r r' → F p = none → Env K (upd F p (.lst vs)) S' H' r' σ q' → RepL K S' ds vs → Q (.ref p) H'
  | (.error c, q') => ∀ S' H' r', Ex S S' → Rle r r' → Env K F S' H' r' σ q' → W c none σ H'
def TokL (K : PySem.W.Frag) (W : WX) (te : TE) (f : ME (List D)) : Prop :=
  ∀ F S H r σ q z, Env K F S H r σ q → f q = some z → ∀ Q, PostL K W F S r σ z Q → te σ H Q
structure IsL (X : Cx) (W : WX) (e : Expr) (t : TE) (f : ME (List D)) : Prop where
  pe : PE X e t
  ok : TokL X.K W t f
section
variable {X : Cx} {W : WX} {e e1 e2 e3 : Expr} {es : List Expr} {t t1 t2 t3 : TE} {ta : TA} {f f1 f2 f3 : ME XV} {fa : ME (List XV)} {pos : Pos} {tt tt1 tt2 : TT} {g g1 g2 : ME Bool} {K : PySem.W.Frag} {fl : ME (List D)}
def eL (f : ME (List D)) : ME XV := bnd f fun ds => ret (.d (.lst ds))
theorem tok_ofL (h : TokL K W t fl) : Tok (RX K) K W t (eL fl) := by
  intro F S H r σ q z E hz Q P
  unfold eL at hz
  rw [bnd_eq] at hz
  cases e : fl q with
  | none => rw [e] at hz; cases hz
  | some z1 =>
    obtain ⟨x, q1⟩ := z1
    rw [e] at hz
    cases x with
    | error c =>
      cases hz
      exact h F S H r σ q _ E e _ P
    | ok ds =>
      cases hz
      refine h F S H r σ q _ E e _ fun p vs S1 H1 r1 e1 k1 hp E1 rp => ?_
      obtain ⟨E2, ex⟩ := E1.settle hp
      refine P (.ref p) _ _ r1 (e1.trans ex) k1 E2 ?_
      show Rep K _ (.lst ds) _
      rw [Rep]
      exact ⟨p, vs, rfl, upd_same, RepL.mono ex _ _ rp⟩
theorem is_l (h : IsL X W e t fl) : IsE X W e t (eL fl) := ⟨h.pe, tok_ofL h.ok⟩
/-- what comes behind values, a fresh list made -/
theorem TokL.bind {a u : Type} {rep : RP a u} {te : TX u} {f : ME a} {g : a → ME (List D)} {t2 : u → TE} (h1 : Tok rep K W te f)
    (h2 : ∀ x v F S H r σ q z, Env K F S H r σ q → rep S r x v → g x q = some z → ∀ Q, PostL K W F S r σ z Q → t2 v σ H Q) : TokL K W (fun σ H Q => te σ H fun v H1 => t2 v σ H1 Q) (bnd f g) := by
  intro F S H r σ q z E hz Q P
  rw [bnd_eq] at hz
  cases e : f q with
  | none => rw [e] at hz; cases hz
  | some z1 =>
    obtain ⟨x, q1⟩ := z1
    rw [e] at hz
    cases x with
    | error c =>
      cases hz
      exact h1 F S H r σ q _ E e _ P
    | ok x =>
      refine h1 F S H r σ q _ E e _ fun v S1 H1 r1 e1 k1 E1 rp => h2 x v F S1 H1 r1 σ q1 z E1 rp hz Q ?_
      obtain ⟨x, q⟩ := z
      cases x with
      | error c => exact fun S2 H2 r2 e2 k2 E => P S2 H2 r2 (e1.trans e2) (k1.trans k2) E
      | ok x => exact fun p vs S2 H2 r2 e2 k2 hp E rp => P p vs S2 H2 r2 (e1.trans e2) (k1.trans k2) hp E rp
def lLst (fa : ME (List XV)) : ME (List D) := bnd fa fun xs => lft ((allD xs).bind fun ds => if ds.length ≤ big then some ds else none)
theorem is_lst (h : IsA X W es ta fa) : IsL X W (.List es pos) (tLst ta) (lLst fa) := by
  refine ⟨pe_lst h.pa, ?_⟩
  refine TokL.bind (t2 := fun xs σ H Q => xs.length ≤ sizeLine ∧ ∀ p, H p = none → Q (.ref p) (upd H p (.lst xs))) h.ok fun x v F S H r σ q z E rx hz Q P => ?_
  obtain ⟨ds, y, e1, e2, e3⟩ := lftb hz
  obtain ⟨hl, e4⟩ := ifs e2
  subst e3
  subst e4
  have rp := allD_rep e1 rx
  exact ⟨by rw [← rp.length]; exact big_line hl, fun p hp => P p v S _ r (Ex.refl _) (Rle.refl _) (E.newF hp) (E.add hp (.lst v)) rp⟩
/-! ### built-in calls on values -/
def RCok (K : PySem.W.Frag) (rc : List V → Hp → VK → Prop) (g : List D → Option D) : Prop :=
  ∀ F S H r σ q ds z vs, Env K F S H r σ q → RepHL K S H ds vs → g ds = some z → ∀ Q : VK, (∀ v S' H', Ex S S' → Env K F S' H' r σ q → Rep K S' z v → Q v H') → rc vs H Q
def eCB (g : List D → Option D) (fa : ME (List XV)) : ME XV := bnd fa fun xs => lft ((allD xs).bind fun ds => (g ds).map .d)
theorem tok_cb {rc : List V → Hp → VK → Prop} {g : List D → Option D} (hr : RCok K rc g) (h : Tok (RXL K) K W ta fa) : Tok (RX K) K W (tCB rc ta) (eCB g fa) := by
  refine Tok.bind (t2 := fun xs σ H Q => rc xs H Q) h fun x v F S H r σ q z E rx hz Q P => ?_
  obtain ⟨ds, y, e1, e2, e3⟩ := lftb hz
  subst e3
  cases e4 : g ds with
  | none => rw [e4] at e2; cases e2
  | some w =>
    rw [e4] at e2
    cases e2
    exact hr F S H r σ q ds w v E ((allD_rep e1 rx).toH E.sub) e4 Q fun v' S' H' ex E' rp => P v' S' H' r ex (Rle.refl _) E' rp
theorem is_cb {x : Str} {p : Pos} {id : String} {rc : List V → Hp → VK → Prop} {g : List D → Option D} (hc : CallR X (.builtin id) rc) (hr : RCok X.K rc g) (hg : Gl X x) (hm : X.mg x = none) (hv : bootBuiltins x = some (.builtin id)) (ha : IsA X W (e :: es) ta fa)
    (hn : x ≠ "__name__" := by decide) (hdb : (x == ("__debug__" : Str)) = false := by decide) (he : starEach (e :: es) X.env = (false, eval e X.env) :: starEach es X.env := by rfl) (hpl : (backTo pos (starEach es X.env)).any (·.1) = false := by rfl) :
    IsE X W (.Call (.Name x p) (e :: es) [] pos) (tCB rc ta) (eCB g fa) := ⟨pe_callB hc hg hm hv ha.pa hn hdb he hpl, tok_cb hr ha.ok⟩
theorem is_cty {x : Str} {p : Pos} {T : String} {rc : List V → Hp → VK → Prop} {g : List D → Option D} (hc : CallR X (.type T) rc) (hr : RCok X.K rc g) (hg : Gl X x) (hm : X.mg x = none) (hv : bootBuiltins x = some (.type T)) (ha : IsA X W (e :: es) ta fa)
    (hn : x ≠ "__name__" := by decide) (hdb : (x == ("__debug__" : Str)) = false := by decide) (he : starEach (e :: es) X.env = (false, eval e X.env) :: starEach es X.env := by rfl) (hpl : (backTo pos (starEach es X.env)).any (·.1) = false := by rfl) :
    IsE X W (.Call (.Name x p) (e :: es) [] pos) (tCB rc ta) (eCB g fa) := ⟨pe_callTy hc hg hm hv ha.pa hn hdb he hpl, tok_cb hr ha.ok⟩
/-- a built-in call that makes a list -/
def RLok (K : PySem.W.Frag) (rc : List V → Hp → VK → Prop) (g : List D → Option (List D)) : Prop :=
  ∀ F S H r σ q ds z vs, Env K F S H r σ q → RepHL K S H ds vs → g ds = some z → ∀ Q : VK, (∀ p us, H p = none → RepL K S z us → Q (.ref p) (upd H p (.lst us))) → rc vs H Q
def lCB (g : List D → Option (List D)) (fa : ME (List XV)) : ME (List D) := bnd fa fun xs => lft ((allD xs).bind g)
theorem tokL_cb {rc : List V → Hp → VK → Prop} {g : List D → Option (List D)} (hr : RLok K rc g) (h : Tok (RXL K) K W ta fa) : TokL K W (tCB rc ta) (lCB g fa) := by
  refine TokL.bind (t2 := fun xs σ H Q => rc xs H Q) h fun x v F S H r σ q z E rx hz Q P => ?_
  obtain ⟨ds, y, e1, e2, e3⟩ := lftb hz
  subst e3
  exact hr F S H r σ q ds y v E ((allD_rep e1 rx).toH E.sub) e2 Q fun p us hp rp => P p us S _ r (Ex.refl _) (Rle.refl _) (E.newF hp) (E.add hp (.lst us)) rp
theorem is_lcty {x : Str} {p : Pos} {T : String} {rc : List V → Hp → VK → Prop} {g : List D → Option (List D)} (hc : CallR X (.type T) rc) (hr : RLok X.K rc g) (hg : Gl X x) (hm : X.mg x = none) (hv : bootBuiltins x = some (.type T)) (ha : IsA X W (e :: es) ta fa)
    (hn : x ≠ "__name__" := by decide) (hdb : (x == ("__debug__" : Str)) = false := by decide) (he : starEach (e :: es) X.env = (false, eval e X.env) :: starEach es X.env := by rfl) (hpl : (backTo pos (starEach es X.env)).any (·.1) = false := by rfl) :
    IsL X W (.Call (.Name x p) (e :: es) [] pos) (tCB rc ta) (lCB g fa) := ⟨pe_callTy hc hg hm hv ha.pa hn hdb he hpl, tokL_cb hr ha.ok⟩
theorem is_lcb {x : Str} {p : Pos} {id : String} {rc : List V → Hp → VK → Prop} {g : List D → Option (List D)} (hc : CallR X (.builtin id) rc) (hr : RLok X.K rc g) (hg : Gl X x) (hm : X.mg x = none) (hv : bootBuiltins x = some (.builtin id)) (ha : IsA X W (e :: es) ta fa)
    (hn : x ≠ "__name__" := by decide) (hdb : (x == ("__debug__" : Str)) = false := by decide) (he : starEach (e :: es) X.env = (false, eval e X.env) :: starEach es X.env := by rfl) (hpl : (backTo pos (starEach es X.env)).any (·.1) = false := by rfl) :
    IsL X W (.Call (.Name x p) (e :: es) [] pos) (tCB rc ta) (lCB g fa) := ⟨pe_callB hc hg hm hv ha.pa hn hdb he hpl, tokL_cb hr ha.ok⟩

/-! ### the call of a def -/
abbrev Fn := List XV → List WO → Option (Except Value XV × List WO)
def PostF (K : PySem.W.Frag) (F S : Hp) (r : List Addr) (z : Except Value XV × List WO) (Q : VK) (E : XK) : Prop :=
  match z with
  | (.ok x, w') => ∀ v S' H' r', Ex S S' → Rle r r' → Env K F S' H' r' [] ⟨[], w'⟩ → XRep K S' r' x v → Q v H'
  | (.error c, w') => ∀ S' H' r', Ex S S' → Rle r r' → Env K F S' H' r' [] ⟨[], w'⟩ → E c none H'
def spF (K : PySem.W.Frag) (n : Nat) (G : Fn) : Sp := fun vs H Q E => vs.length = n ∧ ∃ F S r xs w z, Env K F S H r [] ⟨[], w⟩ ∧ XRepL K S r xs vs ∧ G xs w = some z ∧ PostF K F S r z Q E
def eCall (n : Nat) (G : Fn) (fa : ME (List XV)) : ME XV := bnd fa fun xs q => if xs.length = n then (match G xs q.w with
  | none => none
  | some (x, w') => some (x, { q with w := w' })) else none
theorem sp_of {n : Nat} {G : Fn} {F S H : Hp} {r : List Addr} {σ : L2.St} {q : Stt} {z : Rs XV} {xs : List XV} {vs : List V} {Q : VK} (E : Env K F S H r σ q) (rx : XRepL K S r xs vs)
    (hz : (if xs.length = n then (match G xs q.w with | none => none | some (x, w') => some (x, { q with w := w' })) else none) = some z) (P : Post (RX K) K W F S r σ z Q) : spF K n G (vs ++ []) H Q (WE W σ) := by
  by_cases hn : xs.length = n
  · rw [if_pos hn] at hz
    rw [List.append_nil]
    refine ⟨by rw [← rx.length]; exact hn, ?_⟩
    cases e : G xs q.w with
    | none => rw [e] at hz; cases hz
    | some y =>
      obtain ⟨x, w'⟩ := y
      rw [e] at hz
      cases hz
      obtain ⟨F', _, E', back⟩ := E.hide
      refine ⟨F', S, r, xs, q.w, _, E', rx, e, ?_⟩
      cases x with
      | ok x => exact fun v S1 H1 r1 ex k E1 rp => P v S1 H1 r1 ex k (back S1 H1 r1 w' ex k E1) rp
      | error c => exact fun S1 H1 r1 ex k E1 => P S1 H1 r1 ex k (back S1 H1 r1 w' ex k E1)
  · rw [if_neg hn] at hz
    cases hz
/-- a def that raises nothing -/
theorem is_call {CXx : CXT} {k n : Nat} {fA : Addr} {fd : FuncData} {ps : List Str} {G : Fn} {x : Str} {p : Pos} (GF : FnOk X.prog X.w X.K X.mg X.base CX0 k fA fd ps (spF X.K n G)) (hr : Room k X.A) (hg : Gl X x) (hm : X.mg x = some (.ref fA)) (hk : PySem.W.keepIn X.K (.ref fA) = true) (hb : Binds X.K fd ps [])
    (ha : IsA X W (e :: es) ta fa) (hne : ∀ xs w c w', G xs w ≠ some (.error c, w')) (hdb : (x == ("__debug__" : Str)) = false := by decide) (he : starEach (e :: es) X.env = (false, eval e X.env) :: starEach es X.env := by rfl) (hpl : (backTo pos (starEach es X.env)).any (·.1) = false := by rfl) :
    IsE X W (.Call (.Name x p) (e :: es) [] pos) (tCall (spF X.K n G) [] E0 ta) (eCall n G fa) := by
  refine ⟨pe_call GF hr hg hm hk hb .nil pass0 ha.pa hdb he hpl, ?_⟩
  refine Tok.bind (t2 := fun xs σ H Q => spF X.K n G (xs ++ []) H Q E0) ha.ok fun x v F S H r σ q z E rx hz Q P => ?_
  obtain ⟨h1, F', S', r', xs', w', z', h2, h3, h4, h5⟩ := sp_of (W := W) E rx hz P
  refine ⟨h1, F', S', r', xs', w', z', h2, h3, h4, ?_⟩
  obtain ⟨y, w2⟩ := z'
  cases y with
  | ok y => exact h5
  | error c => exact absurd h4 (hne _ _ _ _)
/-- a def that may raise, where W is wished -/
theorem is_callX {k n : Nat} {fA : Addr} {fd : FuncData} {ps : List Str} {G : Fn} {x : Str} {p : Pos} (GF : FnOk X.prog X.w X.K X.mg X.base (L2.CX X.prog X.w) k fA fd ps (spF X.K n G)) (hr : Room k X.A) (hg : Gl X x) (hm : X.mg x = some (.ref fA)) (hk : PySem.W.keepIn X.K (.ref fA) = true) (hb : Binds X.K fd ps [])
    (tk : Takes X W) (ha : IsA X W (e :: es) ta fa) (hdb : (x == ("__debug__" : Str)) = false := by decide) (he : starEach (e :: es) X.env = (false, eval e X.env) :: starEach es X.env := by rfl) (hpl : (backTo pos (starEach es X.env)).any (·.1) = false := by rfl) :
    IsE X W (.Call (.Name x p) (e :: es) [] pos) (tCallS (spF X.K n G) (WE W) ta) (eCall n G fa) := by
  refine ⟨pe_callS GF hr hg hm hk hb (fun σ => passAt tk σ) ha.pa hdb he hpl, ?_⟩
  refine Tok.bind (t2 := fun xs σ H Q => spF X.K n G xs H Q (WE W σ)) ha.ok fun x v F S H r σ q z E rx hz Q P => ?_
  have h := sp_of (W := W) E rx hz P
  rw [List.append_nil] at h
  exact h
end

/-! ### statements -/
inductive Fl where
  | nx (q : Stt) | rt (x : XV) (q : Stt) | bk (q : Stt) | ct (q : Stt) | ex (c : Value) (q : Stt)
abbrev MS := Stt → Option Fl
def PostS (K : PySem.W.Frag) (W : WX) (F S : Hp) (r : List Addr) (z : Fl) (d : Ends) : Prop :=
  match z with
  | .nx q' => ∀ σ' S' H' r', Ex S S' → Rle r r' → Env K F S' H' r' σ' q' → d.nx σ' H'
  | .bk q' => ∀ σ' S' H' r', Ex S S' → Rle r r' → Env K F S' H' r' σ' q' → d.bk σ' H'
  | .ct q' => ∀ σ' S' H' r', Ex S S' → Rle r r' → Env K F S' H' r' σ' q' → d.ct σ' H'
  | .rt x q' => ∀ v σ' S' H' r', Ex S S' → Rle r r' → Env K F S' H' r' σ' q' → XRep K S' r' x v → d.rt v H'
  | .ex c q' => ∀ σ' S' H' r', Ex S S' → Rle r r' → Env K F S' H' r' σ' q' → W c none σ' H'
def TokS (K : PySem.W.Frag) (W : WX) (ts : TS) (g : MS) : Prop :=
  ∀ F S H r σ q z, Env K F S H r σ q → g q = some z → ∀ d, PostS K W F S r z d → ts d σ H
structure IsS (X : Cx) (W : WX) (st : Stmt) (t : TS) (g : MS) : Prop where
  ps : PS X st t
  ok : TokS X.K W t g
structure IsB (X : Cx) (W : WX) (st : List Stmt) (t : TS) (g : MS) : Prop where
  ps : PSs X st t
  ok : TokS X.K W t g
section
variable {X : Cx} {W : WX} {e e1 e2 e3 : Expr} {es : List Expr} {t t1 t2 t3 : TE} {ta : TA} {f f1 f2 f3 : ME XV} {fa : ME (List XV)} {pos : Pos} {tt tt1 tt2 : TT} {gt : ME Bool} {K : PySem.W.Frag} {fl : ME (List D)} {ts ts1 ts2 : TS} {g g1 g2 : MS} {st : Stmt} {sts : List Stmt} {F S S' : Hp} {r r' : List Addr} {z : Fl} {d : Ends}
theorem PostS.mono (e : Ex S S') (k : Rle r r') (h : PostS K W F S r z d) : PostS K W F S' r' z d := by
  cases z with
  | nx q => exact fun σ S2 H2 r2 e2 k2 E => h σ S2 H2 r2 (e.trans e2) (k.trans k2) E
  | bk q => exact fun σ S2 H2 r2 e2 k2 E => h σ S2 H2 r2 (e.trans e2) (k.trans k2) E
  | ct q => exact fun σ S2 H2 r2 e2 k2 E => h σ S2 H2 r2 (e.trans e2) (k.trans k2) E
  | rt x q => exact fun v σ S2 H2 r2 e2 k2 E rp => h v σ S2 H2 r2 (e.trans e2) (k.trans k2) E rp
  | ex c q => exact fun σ S2 H2 r2 e2 k2 E => h σ S2 H2 r2 (e.trans e2) (k.trans k2) E
def sNext : MS := fun q => some (.nx q)
def sSeq (g1 g2 : MS) : MS := fun q => match g1 q with
  | some (.nx q') => g2 q'
  | z => z
theorem is_bnil : IsB X W [] tNext sNext := ⟨pss_nil, fun F S H r σ q z E hz d P => by
  cases hz
  exact P σ S H r (Ex.refl _) (Rle.refl _) E⟩
theorem tokS_seq (h1 : TokS K W ts1 g1) (h2 : TokS K W ts2 g2) : TokS K W (tSeq ts1 ts2) (sSeq g1 g2) := by
  intro F S H r σ q z E hz d P
  unfold sSeq at hz
  cases e : g1 q with
  | none => rw [e] at hz; cases hz
  | some y =>
    rw [e] at hz
    cases y with
    | nx q1 => exact h1 F S H r σ q _ E e _ fun σ1 S1 H1 r1 e1 k1 E1 => h2 F S1 H1 r1 σ1 q1 z E1 hz d (P.mono e1 k1)
    | bk q1 => cases hz; exact h1 F S H r σ q _ E e _ P
    | ct q1 => cases hz; exact h1 F S H r σ q _ E e _ P
    | rt x q1 => cases hz; exact h1 F S H r σ q _ E e _ P
    | ex c q1 => cases hz; exact h1 F S H r σ q _ E e _ P
theorem is_bcons (h1 : IsS X W st ts1 g1) (h2 : IsB X W sts ts2 g2) : IsB X W (st :: sts) (tSeq ts1 ts2) (sSeq g1 g2) := ⟨pss_cons h1.ps h2.ps, tokS_seq h1.ok h2.ok⟩
theorem is_bone (h1 : IsS X W st ts1 g1) : IsB X W [st] ts1 g1 := ⟨pss_one h1.ps, h1.ok⟩
theorem is_pass : IsS X W (.Pass pos) tNext sNext := ⟨ps_pass, is_bnil (X := X) (W := W).ok⟩
theorem is_break : IsS X W (.Break pos) tBreak (fun q => some (.bk q)) := ⟨ps_break, fun F S H r σ q z E hz d P => by
  cases hz
  exact P σ S H r (Ex.refl _) (Rle.refl _) E⟩
theorem is_continue : IsS X W (.Continue pos) tCont (fun q => some (.ct q)) := ⟨ps_continue, fun F S H r σ q z E hz d P => by
  cases hz
  exact P σ S H r (Ex.refl _) (Rle.refl _) E⟩
/-- from an expression to a statement -/
def sOf {a : Type} (f : ME a) (k : a → Stt → Option Fl) : MS := fun q => match f q with
  | none => none
  | some (.error c, q') => some (.ex c q')
  | some (.ok x, q') => k x q'
theorem TokS.of {a u : Type} {rep : RP a u} {te : TX u} {f : ME a} {k : a → Stt → Option Fl} {t2 : u → TS} (h1 : Tok rep K W te f)
    (h2 : ∀ x v F S H r σ q z, Env K F S H r σ q → rep S r x v → k x q = some z → ∀ d, PostS K W F S r z d → t2 v d σ H) : TokS K W (fun d σ H => te σ H fun v H1 => t2 v d σ H1) (sOf f k) := by
  intro F S H r σ q z E hz d P
  unfold sOf at hz
  cases e : f q with
  | none => rw [e] at hz; cases hz
  | some z1 =>
    obtain ⟨x, q1⟩ := z1
    rw [e] at hz
    cases x with
    | error c =>
      cases hz
      exact h1 F S H r σ q _ E e _ fun S1 H1 r1 e1 k1 E1 => P σ S1 H1 r1 e1 k1 E1
    | ok x => exact h1 F S H r σ q _ E e _ fun v S1 H1 r1 e1 k1 E1 rp => h2 x v F S1 H1 r1 σ q1 z E1 rp hz d (P.mono e1 k1)
def sRet (f : ME XV) : MS := sOf f fun x q => some (.rt x q)
theorem is_ret (h : IsE X W e t f) : IsS X W (.Return (some e) pos) (tRet t) (sRet f) := by
  refine ⟨ps_ret h.pe, TokS.of (t2 := fun v d σ H => d.rt v H) h.ok fun x v F S H r σ q z E rx hz d P => ?_⟩
  cases hz
  exact P v σ S H r (Ex.refl _) (Rle.refl _) E rx
theorem is_retN : IsS X W (.Return none pos) tRetN (fun q => some (.rt (.d .non) q)) := ⟨ps_retN, fun F S H r σ q z E hz d P => by
  cases hz
  exact P .non σ S H r (Ex.refl _) (Rle.refl _) E (show Rep X.K S .non .non by rw [Rep])⟩
def sDrop (f : ME XV) : MS := sOf f fun _ q => some (.nx q)
theorem is_drop (h : IsE X W e t f) (hs : swapsWith e none pos.line X.env = pure false := by rfl) : IsS X W (.Expr e pos) (tDrop t) (sDrop f) := by
  refine ⟨ps_expr h.pe hs, TokS.of (t2 := fun v d σ H => d.nx σ H) h.ok fun x v F S H r σ q z E rx hz d P => ?_⟩
  cases hz
  exact P σ S H r (Ex.refl _) (Rle.refl _) E
def sIf (gt : ME Bool) (g1 g2 : MS) : MS := sOf gt fun b => if b then g1 else g2
theorem is_ifS {c : Expr} {a b : List Stmt} (hc : IsT X W c tt gt) (ha : IsB X W a ts1 g1) (hb : IsB X W b ts2 g2) : IsS X W (.If c a b pos) (tIfS tt ts1 ts2) (sIf gt g1 g2) := by
  refine ⟨ps_if hc.pt ha.ps hb.ps, TokS.of (t2 := fun c d σ H => if c = true then ts1 d σ H else ts2 d σ H) hc.ok fun x v F S H r σ q z E rx hz d P => ?_⟩
  have e : x = v := rx
  subst e
  cases x with
  | true => exact iteT (ha.ok F S H r σ q z E hz d P)
  | false => exact iteF (hb.ok F S H r σ q z E hz d P)
/-! ### targets -/
/-- the slots but those in js are as they were -/
def Agree (js : List Nat) (σ σ' : L2.St) : Prop := σ'.length = σ.length ∧ ∀ j, j ∉ js → σ'[j]? = σ[j]?
def TokG (K : PySem.W.Frag) (tg : TG) (js : List Nat) (as : XV → Stt → Option Stt) : Prop :=
  ∀ x v F S H r σ q q', Env K F S H r σ q → XRep K S r x v → as x q = some q' → ∀ Q : L2.St → Hp → Prop, (∀ σ', Env K F S H r σ' q' → Agree js σ σ' → Q σ' H) → tg v σ H Q
structure IsG (X : Cx) (e : Expr) (tg : TG) (js : List Nat) (as : XV → Stt → Option Stt) : Prop where
  pg : PG X e tg
  ok : TokG X.K tg js as
theorem agree_set {σ : L2.St} {i : Nat} {x : Option V} : Agree [i] σ (σ.set i x) := ⟨by simp, fun j h => List.getElem?_set_ne (by intro z; exact h (by simp [z]))⟩
theorem Agree.trans {a b : List Nat} {σ σ1 σ2 : L2.St} (h : Agree a σ σ1) (k : Agree b σ1 σ2) : Agree (a ++ b) σ σ2 :=
  ⟨k.1.trans h.1, fun j m => (k.2 j fun z => m (List.mem_append_right _ z)).trans (h.2 j fun z => m (List.mem_append_left _ z))⟩
def toSl : XV → Sl
  | .d d => .dat d
  | .h n => .hnd n
def gSet (i : Nat) : XV → Stt → Option Stt := fun x q => if i < q.sl.length then some { q with sl := q.sl.set i (toSl x) } else none
theorem tokG_name (i : Nat) : TokG K (gName i) [i] (gSet i) := by
  intro x v F S H r σ q q' E rx hz Q k
  obtain ⟨hi, e⟩ := ifs hz
  subst e
  refine k _ ?_ agree_set
  have E1 := E.putX i rx hi
  cases x <;> exact E1
theorem is_gname (i : Nat) {x : Str} (hN : X.N.Nodup) (hi : X.N[i]? = some x := by rfl) (hx : Loc X.env.scope x := by first | exact .inl rfl | exact .inr rfl) (hf : X.fn x = true ∨ X.env.scope.names.lookup x = some .local := by first | exact .inl rfl | exact .inr rfl | assumption) :
    IsG X (.Name x pos) (gName i) [i] (gSet i) := ⟨pg_name hN hi hx hf, tokG_name i⟩
/-- several targets -/
def TokGs (K : PySem.W.Frag) (tg : TGs) (js : List Nat) (as : List D → Stt → Option Stt) : Prop :=
  ∀ xs vs F S H r σ q q', Env K F S H r σ q → RepL K S xs vs → as xs q = some q' → ∀ Q : L2.St → Hp → Prop, (∀ σ', Env K F S H r σ' q' → Agree js σ σ' → Q σ' H) → tg vs σ H Q
structure IsGs (X : Cx) (es : List Expr) (tg : TGs) (js : List Nat) (as : List D → Stt → Option Stt) : Prop where
  pg : PGs X es tg
  ok : TokGs X.K tg js as
def gsNil : List D → Stt → Option Stt := fun xs q => match xs with
  | [] => some q
  | _ => none
def gsCons (a : XV → Stt → Option Stt) (b : List D → Stt → Option Stt) : List D → Stt → Option Stt := fun xs q => match xs with
  | [] => none
  | x :: xs => (a (.d x) q).bind (b xs)
theorem is_gsnil : IsGs X [] gNil [] gsNil := ⟨pgs_nil, fun xs vs F S H r σ q q' E rx hz Q k => by
  cases xs with
  | nil =>
    cases hz
    rw [RepL] at rx
    exact ⟨rx, k σ E ⟨rfl, fun _ _ => rfl⟩⟩
  | cons x xs => cases hz⟩
theorem is_gscons {tg : TG} {tgs : TGs} {j1 j2 : List Nat} {a : XV → Stt → Option Stt} {b : List D → Stt → Option Stt} (h1 : IsG X e tg j1 a) (h2 : IsGs X es tgs j2 b) (hs : (assignEach (e :: es) X.env).map (·.2) = assign e X.env :: (assignEach es X.env).map (·.2) := by rfl) : IsGs X (e :: es) (gCons tg tgs) (j1 ++ j2) (gsCons a b) := by
  refine ⟨pgs_cons h1.pg h2.pg hs, fun xs vs F S H r σ q q' E rx hz Q k => ?_⟩
  cases xs with
  | nil => cases hz
  | cons x xs =>
    have hz' : (a (.d x) q).bind (b xs) = some q' := hz
    rw [RepL] at rx
    obtain ⟨v, vs', rfl, r1, r2⟩ := rx
    cases e1 : a (.d x) q with
    | none => rw [e1] at hz'; cases hz'
    | some q1 =>
      rw [e1] at hz'
      refine ⟨v, vs', rfl, h1.ok (.d x) v F S H r σ q q1 E r1 e1 _ fun σ1 E1 a1 => ?_⟩
      exact h2.ok xs vs' F S H r σ1 q1 q' E1 r2 hz' Q fun σ2 E2 a2 => k σ2 E2 (a1.trans a2)
def gTupD (n : Nat) (b : List D → Stt → Option Stt) : XV → Stt → Option Stt := fun x q => match x with
  | .d (.tup ds) => if ds.length = n then b ds q else none
  | _ => none
theorem is_gtup {tgs : TGs} {k n : Nat} {js : List Nat} {b : List D → Stt → Option Stt} (h : IsGs X es tgs js b) (hc : X.calm = true := by rfl) (hn : (assignEach es X.env).length = n := by rfl) (hst : (assignEach es X.env).findIdx? (·.1) = none := by rfl) : IsG X (.Tuple es k pos) (gTup X.K n tgs) js (gTupD n b) := by
  refine ⟨pg_tup hc h.pg hn hst, fun x v F S H r σ q q' E rx hz Q k => ?_⟩
  cases x with
  | h n => cases hz
  | d x =>
    cases x with
    | tup ds =>
      have hz' : (if ds.length = n then b ds q else none) = some q' := hz
      have rx' : Rep X.K S (.tup ds) v := rx
      rw [Rep] at rx'
      obtain ⟨a, vs, rfl, h1, h2⟩ := rx'
      by_cases hl : ds.length = n
      · rw [if_pos hl] at hz'
        exact ⟨a, vs, rfl, Evl.ex_t E.sub h1, by rw [← h2.length]; exact hl, h.ok ds vs F S H r σ q q' E h2 hz' Q k⟩
      · rw [if_neg hl] at hz'
        cases hz'
    | _ => cases hz
/-! ### assignments -/
def sAsg (f : ME XV) (a : XV → Stt → Option Stt) : MS := sOf f fun x q => (a x q).map .nx
theorem tokS_asg {tg : TG} {js : List Nat} {a : XV → Stt → Option Stt} (h : Tok (RX K) K W t f) (hg : TokG K tg js a) : TokS K W (tAsg t tg) (sAsg f a) := by
  refine TokS.of (t2 := fun v d σ H => tg v σ H d.nx) h fun x v F S H r σ q z E rx hz d P => ?_
  cases e : a x q with
  | none => rw [e] at hz; cases hz
  | some q1 =>
    rw [e] at hz
    cases hz
    exact hg x v F S H r σ q q1 E rx e _ fun σ1 E1 _ => P σ1 S H r (Ex.refl _) (Rle.refl _) E1
theorem is_set (i : Nat) {x : Str} {pos' : Pos} (hN : X.N.Nodup) (he : IsE X W e t f) (hi : X.N[i]? = some x := by rfl) (hx : Loc X.env.scope x := by first | exact .inl rfl | exact .inr rfl) (hs : swapsWith e (some (.Name x pos')) pos.line X.env = pure false := by rfl) (hf : X.fn x = true ∨ X.env.scope.names.lookup x = some .local := by first | exact .inl rfl | exact .inr rfl | assumption) :
    IsS X W (.Assign [.Name x pos'] e pos) (tAsg t (gName i)) (sAsg f (gSet i)) := ⟨ps_set hN hi hx he.pe hs hf, tokS_asg he.ok (tokG_name i)⟩
theorem is_asg {tgt : Expr} {tg : TG} {js : List Nat} {a : XV → Stt → Option Stt} (he : IsE X W e t f) (hg : IsG X tgt tg js a) (hs : swapsWithSole [tgt] e pos.line X.env = pure false := by rfl) (hw : swappedStores [tgt] e X.env = pure none := by rfl)
    (h1 : (assignEach [tgt] X.env).map (·.2) = [assign tgt X.env] := by rfl) : IsS X W (.Assign [tgt] e pos) (tAsg t tg) (sAsg f a) := ⟨ps_asg he.pe hg.pg hs hw h1, tokS_asg he.ok hg.ok⟩
/-- name = a fresh list, the name's own from then on -/
def sSetL (fl : ME (List D)) (i : Nat) : MS := sOf fl fun ds q => if i < q.sl.length then some (.nx { q with sl := q.sl.set i (.ol ds) }) else none
theorem tokS_setL (i : Nat) (h : TokL K W t fl) : TokS K W (tAsg t (gName i)) (sSetL fl i) := by
  intro F S H r σ q z E hz d P
  unfold sSetL sOf at hz
  cases e : fl q with
  | none => rw [e] at hz; cases hz
  | some z1 =>
    obtain ⟨x, q1⟩ := z1
    rw [e] at hz
    cases x with
    | error c =>
      cases hz
      exact h F S H r σ q _ E e _ fun S1 H1 r1 e1 k1 E1 => P σ S1 H1 r1 e1 k1 E1
    | ok ds =>
      obtain ⟨hi, e2⟩ := ifs hz
      subst e2
      refine h F S H r σ q _ E e _ fun p vs S1 H1 r1 e1 k1 hp E1 rp => ?_
      exact P _ S1 H1 r1 e1 k1 (E1.own hp i (.ol ds) (fun ow hw hH => ⟨p, vs, rfl, hw, hH, rp⟩) hi)
theorem is_setL (i : Nat) {x : Str} {pos' : Pos} (hN : X.N.Nodup) (he : IsL X W e t fl) (hi : X.N[i]? = some x := by rfl) (hx : Loc X.env.scope x := by first | exact .inl rfl | exact .inr rfl) (hs : swapsWith e (some (.Name x pos')) pos.line X.env = pure false := by rfl) (hf : X.fn x = true ∨ X.env.scope.names.lookup x = some .local := by first | exact .inl rfl | exact .inr rfl | assumption) :
    IsS X W (.Assign [.Name x pos'] e pos) (tAsg t (gName i)) (sSetL fl i) := ⟨ps_set hN hi hx he.pe hs hf, tokS_setL i he.ok⟩
/-- name = {} -/
def sNewK (i : Nat) : MS := fun q => if i < q.sl.length then some (.nx { q with sl := q.sl.set i (.od [] []) }) else none
theorem is_newK (i : Nat) {x : Str} {pos' pos2 : Pos} (hN : X.N.Nodup) (hi : X.N[i]? = some x := by rfl) (hx : Loc X.env.scope x := by first | exact .inl rfl | exact .inr rfl) (hs : swapsWith (.Dict [] [] pos2) (some (.Name x pos')) pos.line X.env = pure false := by rfl) (hf : X.fn x = true ∨ X.env.scope.names.lookup x = some .local := by first | exact .inl rfl | exact .inr rfl | assumption) :
    IsS X W (.Assign [.Name x pos'] (.Dict [] [] pos2) pos) (tAsg tDNewK (gName i)) (sNewK i) := by
  refine ⟨ps_set hN hi hx pe_dnewK hs hf, fun F S H r σ q z E hz d P => ?_⟩
  obtain ⟨hl, e2⟩ := ifs hz
  subst e2
  intro p hp
  exact P _ S _ r (Ex.refl _) (Rle.refl _) ((E.add hp (.dK [])).own (E.newF hp) i (.od [] []) (fun ow hw hH => ⟨p, [], rfl, hw, hH, rfl, RepL.nil⟩) hl)
def sNewT (i : Nat) : MS := fun q => if i < q.sl.length then some (.nx { q with sl := q.sl.set i (.ot [] []) }) else none
theorem is_newT (i : Nat) {x : Str} {pos' pos2 : Pos} (hN : X.N.Nodup) (hi : X.N[i]? = some x := by rfl) (hx : Loc X.env.scope x := by first | exact .inl rfl | exact .inr rfl) (hs : swapsWith (.Dict [] [] pos2) (some (.Name x pos')) pos.line X.env = pure false := by rfl) (hf : X.fn x = true ∨ X.env.scope.names.lookup x = some .local := by first | exact .inl rfl | exact .inr rfl | assumption) :
    IsS X W (.Assign [.Name x pos'] (.Dict [] [] pos2) pos) (tAsg tDNewT (gName i)) (sNewT i) := by
  refine ⟨ps_set hN hi hx pe_dnewT hs hf, fun F S H r σ q z E hz d P => ?_⟩
  obtain ⟨hl, e2⟩ := ifs hz
  subst e2
  intro p hp
  exact P _ S _ r (Ex.refl _) (Rle.refl _) ((E.add hp (.dT [])).own (E.newF hp) i (.ot [] []) (fun ow hw hH => ⟨p, [], rfl, hw, hH, rfl, RepL.nil⟩) hl)
end
end Den

namespace Den
open PySem PySem.Spec PyProof.Rows L2
open Evl (Ex)
/-! ### what is walked -/
structure Wlk (K : PySem.W.Frag) (S0 : Hp) (J : It) (ds : List D) : Prop where
  go : ∀ F S H r σ q i d, Ex S0 S → Env K F S H r σ q → ds[i]? = some d → J.go i H ∧ ∀ x H', J.yld i H x H' → ∃ S', Ex S S' ∧ Env K F S' H' r σ q ∧ Rep K S' d x
  stop : ∀ F S H r σ q i, Ex S0 S → Env K F S H r σ q → ds.length ≤ i → J.stop i H
theorem Wlk.mono {K : PySem.W.Frag} {S0 S1 : Hp} {J : It} {ds : List D} (e : Ex S0 S1) (w : Wlk K S0 J ds) : Wlk K S1 J ds :=
  ⟨fun F S H r σ q i d e1 => w.go F S H r σ q i d (e.trans e1), fun F S H r σ q i e1 => w.stop F S H r σ q i (e.trans e1)⟩
abbrev RI (K : PySem.W.Frag) : RP (List D) It := fun S _ ds J => Wlk K S J ds
theorem monoI {K : PySem.W.Frag} : Mono (RI K) := fun _ _ _ _ _ _ e _ h => h.mono e
structure IsI (X : Cx) (W : WX) (tg e : Expr) (wi : TI) (fi : ME (List D)) : Prop where
  pi : PI X tg e wi
  ok : Tok (RI X.K) X.K W wi fi
section
variable {X : Cx} {W : WX} {e e1 e2 e3 tg : Expr} {es : List Expr} {t t1 t2 t3 : TE} {ta : TA} {f f1 f2 f3 : ME XV} {fa : ME (List XV)} {pos p : Pos} {tt tt1 tt2 : TT} {gt : ME Bool} {K : PySem.W.Frag} {fl : ME (List D)} {ts ts1 ts2 : TS} {g g1 g2 : MS} {st : Stmt} {sts : List Stmt}
theorem wlk_list {S : Hp} {a : Addr} {vs : List V} {ds : List D} (h : SqL K S a vs) (rp : RepL K S ds vs) : Wlk K S (Itl K a) ds := by
  refine ⟨fun F S2 H r σ q i d e E hd => ?_, fun F S2 H r σ q i e E hi => ?_⟩
  · have h2 : SqL K H a vs := Evl.ex_l E.sub (Evl.ex_l e h)
    obtain ⟨v, hv, rv⟩ := rp.get hd
    refine ⟨⟨vs, v, h2, hv⟩, fun x H' y => ?_⟩
    obtain ⟨e1, y⟩ := y
    subst e1
    have ex : x = v := Option.some.inj ((y vs h2).symm.trans hv)
    subst ex
    exact ⟨S2, Ex.refl _, E, Rep.mono e _ _ rv⟩
  · exact ⟨vs, Evl.ex_l E.sub (Evl.ex_l e h), by rw [← rp.length]; exact hi⟩
theorem wlk_tup {S : Hp} {a : Addr} {vs : List V} {ds : List D} (h : SqT K S a vs) (rp : RepL K S ds vs) : Wlk K S (Itt K a) ds := by
  refine ⟨fun F S2 H r σ q i d e E hd => ?_, fun F S2 H r σ q i e E hi => ?_⟩
  · have h2 : SqT K H a vs := Evl.ex_t E.sub (Evl.ex_t e h)
    obtain ⟨v, hv, rv⟩ := rp.get hd
    refine ⟨⟨vs, v, h2, hv⟩, fun x H' y => ?_⟩
    obtain ⟨e1, y⟩ := y
    subst e1
    have ex : x = v := Option.some.inj ((y vs h2).symm.trans hv)
    subst ex
    exact ⟨S2, Ex.refl _, E, Rep.mono e _ _ rv⟩
  · exact ⟨vs, Evl.ex_t E.sub (Evl.ex_t e h), by rw [← rp.length]; exact hi⟩
def iota (lo : Int) : Nat → List D
  | 0 => []
  | n + 1 => .int lo :: iota (lo + 1) n
theorem iota_len : ∀ (n : Nat) (lo : Int), (iota lo n).length = n
  | 0, _ => rfl
  | n + 1, lo => by rw [iota, List.length_cons, iota_len n]
theorem iota_get : ∀ (n : Nat) (lo : Int) (i : Nat) (d : D), (iota lo n)[i]? = some d → d = .int (lo + i) ∧ i < n
  | 0, _, i, d, h => by simp [iota] at h
  | n + 1, lo, 0, d, h => by
    have e : D.int lo = d := by simpa [iota] using h
    exact ⟨by rw [← e]; simp, Nat.succ_pos _⟩
  | n + 1, lo, i + 1, d, h => by
    have h' : (iota (lo + 1) n)[i]? = some d := by simpa [iota] using h
    obtain ⟨h1, h2⟩ := iota_get n (lo + 1) i d h'
    refine ⟨?_, by omega⟩
    rw [h1]
    congr 1
    omega
theorem wlk_range {S : Hp} {lo : Int} {n : Nat} : Wlk K S (Itr lo n) (iota lo n) := by
  refine ⟨fun F S2 H r σ q i d e E hd => ?_, fun F S2 H r σ q i e E hi => ?_⟩
  · obtain ⟨h1, h2⟩ := iota_get n lo i d hd
    refine ⟨h2, fun x H' y => ?_⟩
    obtain ⟨e1, y⟩ := y
    subst e1
    subst h1
    refine ⟨S2, Ex.refl _, E, ?_⟩
    rw [Rep]
    exact y
  · rw [iota_len] at hi
    exact hi
/-- a list or a tuple -/
def iSeq (K : PySem.W.Frag) (tl : TE) : TI := fun σ H R => tl σ H fun x H1 => ∃ a, x = .ref a ∧ ((∃ xs, SqL K H1 a xs) ∧ R (Itl K a) H1 ∨ (∃ xs, SqT K H1 a xs) ∧ R (Itt K a) H1)
theorem pi_seq {l : Expr} {tl : TE} (hl : PE X l tl) : PI X tg l (iSeq X.K tl) := by
  refine ⟨fun pins s σ H R I h => ?_⟩
  refine thn (hl.run pins s σ H _ I h) fun v s1 ⟨x, H1, I1, r1, q1⟩ => ?_
  obtain ⟨a, e, q⟩ := q1
  subst e
  cases r1
  rcases q with ⟨⟨xs, hq⟩, q⟩ | ⟨⟨xs, hq⟩, q⟩
  · obtain ⟨its, rv, p, hz⟩ := I1.list hq
    refine wpAny_pyIter_list p.isList ?_
    refine ⟨s1.heap.objs.size, [s1.heap.objs.size], _, _, H1, rfl, I1.kept (t' := s1.toks) fun b o e => Heap.get?_push_of_some _ e, turn_list a _, ⟨_, Heap.get?_push_size _ rfl, rfl, rfl⟩, fun b hb => ?_, q⟩
    have e : b = s1.heap.objs.size := by simpa using hb
    subst e
    exact I1.fpOk (Nat.le_refl _) (I1.hok.fresh (Nat.le_refl _))
  · obtain ⟨its, rv, p, hz⟩ := I1.tuple hq
    refine wpAny_pyIter_tuple (show s1.heap.IsTuple a its.toArray from p) ?_
    refine ⟨s1.heap.objs.size, [s1.heap.objs.size], _, _, H1, rfl, I1.kept (t' := s1.toks) fun b o e => Heap.get?_push_of_some _ e, turn_tuple a _, ⟨_, Heap.get?_push_size _ rfl, rfl, rfl⟩, fun b hb => ?_, q⟩
    have e : b = s1.heap.objs.size := by simpa using hb
    subst e
    exact I1.fpOk (Nat.le_refl _) (I1.hok.fresh (Nat.le_refl _))
def seqD : XV → Option (List D)
  | .d (.lst ds) => some ds
  | .d (.seq ds) => some ds
  | .d (.tup ds) => some ds
  | _ => none
def iOf (f : ME XV) : ME (List D) := bnd f fun x => lft (seqD x)
theorem tok_iseq (h : Tok (RX K) K W t f) : Tok (RI K) K W (iSeq K t) (iOf f) := by
  refine Tok.bind (t2 := fun x σ H R => ∃ a, x = .ref a ∧ ((∃ xs, SqL K H a xs) ∧ R (Itl K a) H ∨ (∃ xs, SqT K H a xs) ∧ R (Itt K a) H)) h fun x v F S H r σ q z E rx hz Q P => ?_
  cases x with
  | h n => cases hz
  | d x =>
    have rx' : Rep K S x v := rx
    cases x with
    | lst ds =>
      cases hz
      rw [Rep] at rx'
      obtain ⟨a, vs, rfl, h1, h2⟩ := rx'
      exact ⟨a, rfl, .inl ⟨⟨vs, SqL.of (E.sub _ _ h1)⟩, P _ S H r (Ex.refl _) (Rle.refl _) E (wlk_list (SqL.of h1) h2)⟩⟩
    | seq ds =>
      cases hz
      rw [Rep] at rx'
      obtain ⟨a, vs, rfl, h1, h2⟩ := rx'
      exact ⟨a, rfl, .inl ⟨⟨vs, Evl.ex_l E.sub h1⟩, P _ S H r (Ex.refl _) (Rle.refl _) E (wlk_list h1 h2)⟩⟩
    | tup ds =>
      cases hz
      rw [Rep] at rx'
      obtain ⟨a, vs, rfl, h1, h2⟩ := rx'
      exact ⟨a, rfl, .inr ⟨⟨vs, Evl.ex_t E.sub h1⟩, P _ S H r (Ex.refl _) (Rle.refl _) E (wlk_tup h1 h2)⟩⟩
    | _ => cases hz
theorem is_iseq (h : IsE X W e t f) : IsI X W tg e (iSeq X.K t) (iOf f) := ⟨pi_seq h.pe, tok_iseq h.ok⟩
def rng1 : List XV → Option (List D)
  | [.d (.int j)] => if -(2 ^ 62) ≤ j ∧ j < 2 ^ 62 then some (iota 0 j.toNat) else none
  | _ => none
def rng2 : List XV → Option (List D)
  | [.d (.int i), .d (.int j)] => if -(2 ^ 62) ≤ i ∧ i < 2 ^ 62 ∧ -(2 ^ 62) ≤ j ∧ j < 2 ^ 62 then some (iota i (j - i).toNat) else none
  | _ => none
theorem xr_int {S : Hp} {r : List Addr} {i : Int} {v : V} (h : XRep K S r (.d (.int i)) v) : v = .int i := by
  have h' : Rep K S (.int i) v := h
  rw [Rep] at h'
  exact h'
theorem is_rng1 (ha : IsA X W [e] ta fa) (hg : Gl X "range") (hm : X.mg "range" = none) (hs : starEach [e] X.env = [(false, eval e X.env)] := by rfl) :
    IsI X W tg (.Call (.Name "range" p) [e] [] pos) (iRng1 ta) (bnd fa fun xs => lft (rng1 xs)) := by
  refine ⟨pi_range1 hg hm ha.pa hs, ?_⟩
  refine Tok.bind (t2 := fun vs σ H R => ∃ j : Int, vs = [V.int j] ∧ -(2 ^ 62) ≤ j ∧ j < 2 ^ 62 ∧ R (Itr 0 j.toNat) H) ha.ok fun x v F S H r σ q z E rx hz Q P => ?_
  unfold lft rng1 at hz
  split at hz
  · cases hz
  · rename_i y hy
    split at hy
    · rename_i j
      obtain ⟨hj, e1⟩ := ifs hy
      subst e1
      cases hz
      obtain ⟨v1, t1, rfl, k1, k2⟩ := rx
      have e2 : t1 = [] := k2
      subst e2
      rw [xr_int k1]
      exact ⟨j, rfl, hj.1, hj.2, P _ S H r (Ex.refl _) (Rle.refl _) E wlk_range⟩
    · cases hy
theorem is_rng2 (ha : IsA X W [e, e1] ta fa) (hg : Gl X "range") (hm : X.mg "range" = none) (hs : starEach [e, e1] X.env = [(false, eval e X.env), (false, eval e1 X.env)] := by rfl) (hs2 : starEach [e1] X.env = [(false, eval e1 X.env)] := by rfl) :
    IsI X W tg (.Call (.Name "range" p) [e, e1] [] pos) (iRng2 ta) (bnd fa fun xs => lft (rng2 xs)) := by
  refine ⟨pi_range2 hg hm ha.pa hs hs2, ?_⟩
  refine Tok.bind (t2 := fun vs σ H R => ∃ i j : Int, vs = [V.int i, V.int j] ∧ (-(2 ^ 62) ≤ i ∧ i < 2 ^ 62 ∧ -(2 ^ 62) ≤ j ∧ j < 2 ^ 62) ∧ R (Itr i (j - i).toNat) H) ha.ok fun x v F S H r σ q z E rx hz Q P => ?_
  unfold lft rng2 at hz
  split at hz
  · cases hz
  · rename_i y hy
    split at hy
    · rename_i i j
      obtain ⟨hj, e1⟩ := ifs hy
      subst e1
      cases hz
      obtain ⟨v1, t1, rfl, k1, v2, t2, rfl, k2, k3⟩ := rx
      have e2 : t2 = [] := k3
      subst e2
      rw [xr_int k1, xr_int k2]
      exact ⟨i, j, rfl, hj, P _ S H r (Ex.refl _) (Rle.refl _) E wlk_range⟩
    · cases hy
/-! ### for -/
def loopD (a : XV → Stt → Option Stt) (g : MS) : List D → MS
  | [] => sNext
  | d :: ds => fun q => match a (.d d) q with
    | none => none
    | some q1 => match g q1 with
      | some (.nx q2) => loopD a g ds q2
      | some (.ct q2) => loopD a g ds q2
      | some (.bk q2) => some (.nx q2)
      | z => z
def sFor (fi : ME (List D)) (a : XV → Stt → Option Stt) (g : MS) : MS := sOf fi fun ds => loopD a g ds
theorem tokS_for {wi : TI} {tg : TG} {js : List Nat} {a : XV → Stt → Option Stt} {fi : ME (List D)} (hi : Tok (RI K) K W wi fi) (hg : TokG K tg js a) (hb : TokS K W ts g) : TokS K W (tFor wi tg ts) (sFor fi a g) := by
  refine TokS.of (t2 := fun (J : It) (D : Ends) (σ : L2.St) (H1 : Hp) => ∃ W : Nat → Nat → L2.St → Hp → Prop, (∃ m, W 0 m σ H1) ∧ ∀ i m σ H, W i m σ H →
    (J.stop i H ∧ D.nx σ H) ∨ (J.go i H ∧ ∃ N : L2.St → Hp → Prop, (∀ σ' H', N σ' H' → ∃ m', m' < m ∧ W (i + 1) m' σ' H') ∧ ∀ x H', J.yld i H x H' → tg x σ H' fun σ2 H2 => ts { D with nx := N, ct := N, bk := D.nx } σ2 H2)) hi fun ds J F S H r σ q z E w hz d P => ?_
  refine ⟨fun i m σ' H' => m = ds.length - i ∧ i ≤ ds.length ∧ ∃ S' r' q', Ex S S' ∧ Rle r r' ∧ Env K F S' H' r' σ' q' ∧ loopD a g (ds.drop i) q' = some z, ⟨_, rfl, Nat.zero_le _, S, r, q, Ex.refl _, Rle.refl _, E, hz⟩, ?_⟩
  rintro i m σ1 H1 ⟨rfl, hi, S1, r1, q1, e1, k1, E1, hl⟩
  by_cases hlt : i < ds.length
  · have hd : ds[i]? = some ds[i] := List.getElem?_eq_getElem hlt
    have hdrop : ds.drop i = ds[i] :: ds.drop (i + 1) := List.drop_eq_getElem_cons hlt
    rw [hdrop] at hl
    obtain ⟨go, yl⟩ := w.go F S1 H1 r1 σ1 q1 i _ e1 E1 hd
    refine .inr ⟨go, fun σ' H' => i + 1 ≤ ds.length ∧ ∃ S' r' q', Ex S S' ∧ Rle r r' ∧ Env K F S' H' r' σ' q' ∧ loopD a g (ds.drop (i + 1)) q' = some z, fun σ' H' ⟨h1, h2⟩ => ⟨_, by omega, rfl, h1, h2⟩, fun x H' y => ?_⟩
    obtain ⟨S2, e2, E2, rx⟩ := yl x H' y
    have hl' : (match a (.d ds[i]) q1 with
      | none => none
      | some q1 => match g q1 with
        | some (.nx q2) => loopD a g (ds.drop (i + 1)) q2
        | some (.ct q2) => loopD a g (ds.drop (i + 1)) q2
        | some (.bk q2) => some (.nx q2)
        | z => z) = some z := hl
    cases ea : a (.d ds[i]) q1 with
    | none => rw [ea] at hl'; cases hl'
    | some q2 =>
      rw [ea] at hl'
      refine hg (.d ds[i]) x F S2 H' r1 σ1 q1 q2 E2 rx ea _ fun σ2 E3 _ => ?_
      have e3 : Ex S S2 := e1.trans e2
      cases eg : g q2 with
      | none => simp only [eg] at hl'; cases hl'
      | some y2 =>
        simp only [eg] at hl'
        have hi1 : i + 1 ≤ ds.length := hlt
        cases y2 with
        | nx q3 => exact hb F S2 H' r1 σ2 q2 _ E3 eg _ fun σ4 S4 H4 r4 e4 k4 E4 => ⟨hi1, S4, r4, q3, e3.trans e4, k1.trans k4, E4, hl'⟩
        | ct q3 => exact hb F S2 H' r1 σ2 q2 _ E3 eg _ fun σ4 S4 H4 r4 e4 k4 E4 => ⟨hi1, S4, r4, q3, e3.trans e4, k1.trans k4, E4, hl'⟩
        | bk q3 =>
          cases hl'
          exact hb F S2 H' r1 σ2 q2 _ E3 eg _ fun σ4 S4 H4 r4 e4 k4 E4 => P σ4 S4 H4 r4 (e3.trans e4) (k1.trans k4) E4
        | rt x3 q3 =>
          cases hl'
          exact hb F S2 H' r1 σ2 q2 _ E3 eg _ fun v4 σ4 S4 H4 r4 e4 k4 E4 rx4 => P v4 σ4 S4 H4 r4 (e3.trans e4) (k1.trans k4) E4 rx4
        | ex c q3 =>
          cases hl'
          exact hb F S2 H' r1 σ2 q2 _ E3 eg _ fun σ4 S4 H4 r4 e4 k4 E4 => P σ4 S4 H4 r4 (e3.trans e4) (k1.trans k4) E4
  · have ei : i = ds.length := by omega
    subst ei
    rw [List.drop_length] at hl
    have ez : sNext q1 = some z := hl
    cases ez
    exact .inl ⟨w.stop F S1 H1 r1 σ1 q1 _ e1 E1 (Nat.le_refl _), P σ1 S1 H1 r1 e1 k1 E1⟩
theorem is_for {wi : TI} {tgt iter : Expr} {tg : TG} {js : List Nat} {a : XV → Stt → Option Stt} {fi : ME (List D)} {body : List Stmt} (hp : PassesOwn (model X.prog X.w) X.A X.env X.xe) (hi : IsI X W tgt iter wi fi) (hg : IsG X tgt tg js a) (hb : IsB X W body ts g) (hc : X.calm = true := by rfl)
    (hs : ∀ x, foldedSetIterable iter X.env x = pure x := by intro _; rfl) : IsS X W (.For tgt iter body [] pos) (tFor wi tg ts) (sFor fi a g) := ⟨ps_for hp hc hi.pi hg.pg hb.ps hs, tokS_for hi.ok hg.ok hb.ok⟩
/-! ### comprehensions -/
def wipeQ (q : Stt) : List Nat → Stt
  | [] => q
  | v :: vs => { wipeQ q vs with sl := (wipeQ q vs).sl.set v .un }
theorem set_big {a : Type} {l : List a} {i : Nat} {x : a} (h : l.length ≤ i) : l.set i x = l := by
  apply List.ext_getElem?
  intro j
  by_cases e : i = j
  · subst e
    rw [List.getElem?_eq_none (by simpa using h), List.getElem?_eq_none h]
  · rw [List.getElem?_set_ne e]
theorem Env.un {F S H : Hp} {r : List Addr} {σ : L2.St} {q : Stt} (E : Env K F S H r σ q) (i : Nat) (x : Option V) : Env K F S H r (σ.set i x) { q with sl := q.sl.set i .un } := by
  by_cases h : i < q.sl.length
  · exact E.put i .un x (fun _ => trivial) h
  · have hl : σ.length = q.sl.length := let ⟨_, e⟩ := E; e.len
    rw [set_big (by omega : σ.length ≤ i), set_big (by omega : q.sl.length ≤ i)]
    exact E
theorem Env.wiped {F S H : Hp} {r : List Addr} {σ : L2.St} {q : Stt} (E : Env K F S H r σ q) : ∀ vs : List Nat, Env K F S H r (wipe σ vs) (wipeQ q vs)
  | [] => E
  | v :: vs => (E.wiped vs).un v none
theorem agree_wipe {σ σ' : L2.St} {js : List Nat} (h : Agree js σ σ') : ∀ {vs : List Nat}, (∀ j ∈ js, j ∈ vs) → wipe σ' vs = wipe σ vs := by
  intro vs hjs
  have key : ∀ (τ : L2.St) (us : List Nat) (j : Nat), (wipe τ us)[j]? = if j ∈ us ∧ j < τ.length then some none else τ[j]? := by
    intro τ us
    induction us with
    | nil => intro j; simp [wipe]
    | cons u us ih =>
      intro j
      unfold wipe
      by_cases e : u = j
      · subst e
        by_cases hl : u < τ.length
        · rw [List.getElem?_set_self (by rw [wipe_length]; exact hl), if_pos ⟨by simp, hl⟩]
        · rw [List.getElem?_eq_none (by rw [List.length_set, wipe_length]; omega), if_neg (fun z => hl z.2), List.getElem?_eq_none (by omega)]
      · rw [List.getElem?_set_ne e, ih]
        have : (j ∈ u :: us) ↔ j ∈ us := by
          rw [List.mem_cons]
          constructor
          · rintro (z | z)
            · exact absurd z.symm e
            · exact z
          · exact .inr
        simp only [this]
  apply List.ext_getElem?
  intro j
  rw [key, key, h.1]
  by_cases m : j ∈ js
  · by_cases hl : j < σ.length
    · rw [if_pos ⟨hjs j m, hl⟩, if_pos ⟨hjs j m, hl⟩]
    · rw [if_neg (fun z => hl z.2), if_neg (fun z => hl z.2), List.getElem?_eq_none (by rw [h.1]; omega), List.getElem?_eq_none (by omega)]
  · rw [h.2 j m]
def lcLoop (vs : List Nat) (a : XV → Stt → Option Stt) (gt : ME Bool) (fe : ME XV) : List D → List D → Stt → Option (List D × Stt)
  | [], acc, q => some (acc, q)
  | d :: ds, acc, q => match a (.d d) q with
    | none => none
    | some q1 => match gt q1 with
      | some (.ok true, q2) => match fe q2 with
        | some (.ok (.d x), q3) => if acc.length < big then lcLoop vs a gt fe ds (acc ++ [x]) (wipeQ q3 vs) else none
        | _ => none
      | some (.ok false, q2) => lcLoop vs a gt fe ds acc (wipeQ q2 vs)
      | _ => none
/-- behind a comprehension: its own names are what they were (where they held data) -/
def keepS : Option Sl → Sl
  | some (.dat d) => .dat d
  | some (.hnd n) => .hnd n
  | _ => .un
def backQ (q0 q : Stt) (vs : List Nat) : Stt := { q with sl := q.sl.mapIdx fun i s => if i ∈ vs then keepS q0.sl[i]? else s }
def lLc (vs : List Nat) (fi : ME (List D)) (a : XV → Stt → Option Stt) (gt : ME Bool) (fe : ME XV) : ME (List D) := bnd fi fun ds q => match lcLoop vs a gt fe ds [] (wipeQ q vs) with
  | none => none
  | some (acc, q') => some (.ok acc, backQ q q' vs)
theorem wipe_get {σ : L2.St} {us : List Nat} {j : Nat} (h : j ∉ us) : (wipe σ us)[j]? = σ[j]? := by
  induction us with
  | nil => rfl
  | cons u us ih =>
    unfold wipe
    have hne : u ≠ j := fun z => h (by simp [z])
    rw [List.getElem?_set_ne hne]
    exact ih fun z => h (List.mem_cons_of_mem _ z)
theorem Env.back {F F' S S' H H' : Hp} {r r' : List Addr} {σ : L2.St} {q0 q : Stt} {vs : List Nat} (ex : Ex S S') (k : Rle r r') (E0 : Env K F S H r σ q0) (E : Env K F' S' H' r' (wipe σ vs) q) : Env K F' S' H' r' σ (backQ q0 q vs) := by
  obtain ⟨ow0, e0⟩ := E0
  obtain ⟨ow, e⟩ := E
  have hl : σ.length = q.sl.length := by rw [← e.len, wipe_length]
  refine ⟨ow, e.sub, e.fr, e.ows, by simp [backQ, hl], fun i s hs => ?_, e.rlen, e.wob⟩
  have hs' : (q.sl.mapIdx fun i s => if i ∈ vs then keepS q0.sl[i]? else s)[i]? = some s := hs
  rw [List.getElem?_mapIdx] at hs'
  cases eq : q.sl[i]? with
  | none => rw [eq] at hs'; cases hs'
  | some s0 =>
    rw [eq] at hs'
    have hs2 : (if i ∈ vs then keepS q0.sl[i]? else s0) = s := Option.some.inj hs'
    by_cases hm : i ∈ vs
    · rw [if_pos hm] at hs2
      cases e1 : q0.sl[i]? with
      | none =>
        rw [e1] at hs2
        subst hs2
        trivial
      | some s1 =>
        rw [e1] at hs2
        have h0 := e0.slot i s1 e1
        cases s1 with
        | dat d =>
          subst hs2
          obtain ⟨w, h1, h2⟩ := h0
          exact ⟨w, h1, Rep.mono ex _ _ h2⟩
        | hnd n =>
          subst hs2
          obtain ⟨a, h1, h2⟩ := h0
          exact ⟨a, k _ _ h1, h2⟩
        | _ => subst hs2; trivial
    · rw [if_neg hm] at hs2
      subst hs2
      have h1 := e.slot i s0 eq
      rw [wipe_get hm] at h1
      exact h1
abbrev W0 : WX := fun _ _ _ _ => False
theorem tokL_lc {wi : TI} {tg : TG} {js : List Nat} {a : XV → Stt → Option Stt} {fi : ME (List D)} {vs : List Nat} {te : TE} {fe : ME XV} (hi : Tok (RI K) K W wi fi) (hg : TokG K tg js a) (ht : Tok RB K W0 tt gt) (he : Tok (RX K) K W0 te fe) (hjs : ∀ j ∈ js, j ∈ vs) :
    TokL K W (tLc wi tg tt te vs) (lLc vs fi a gt fe) := by
  refine TokL.bind (t2 := fun (J : It) (σ : L2.St) (H1 : Hp) (Q : VK) => ∀ D, H1 D = none → ∃ W : Nat → Nat → Hp → Prop, (∃ m, W 0 m (upd H1 D (.lst []))) ∧ ∀ i m H, W i m H →
    (J.stop i H ∧ Q (V.ref D) H) ∨ (J.go i H ∧ ∃ Nx : Hp → Prop, (∀ H', Nx H' → ∃ m', m' < m ∧ W (i + 1) m' H') ∧ ∀ x H', J.yld i H x H' → tg x (wipe σ vs) H' fun σ2 H2 => wipe σ2 vs = wipe σ vs ∧ tt σ2 H2 fun b H3 =>
      if b = true then te σ2 H3 fun y H4 => ∃ acc, H4 D = some (.lst acc) ∧ acc.length < sizeLine ∧ Nx (upd H4 D (.lst (acc ++ [y]))) else Nx H3)) hi fun ds J F S H r σ q z E w hz Q P => ?_
  have hz0 : (match lcLoop vs a gt fe ds [] (wipeQ q vs) with
    | none => none
    | some (acc, q') => some ((Except.ok acc : Except Value (List D)), backQ q q' vs)) = some z := hz
  cases el : lcLoop vs a gt fe ds [] (wipeQ q vs) with
  | none => rw [el] at hz0; cases hz0
  | some zz =>
    obtain ⟨accE, qE⟩ := zz
    rw [el] at hz0
    cases hz0
    intro p hp
    have hF := E.newF hp
    refine ⟨fun i m H' => m = ds.length - i ∧ i ≤ ds.length ∧ ∃ S' r' q' us acc, Ex S S' ∧ Rle r r' ∧ Env K (upd F p (.lst us)) S' H' r' (wipe σ vs) q' ∧ RepL K S' acc us ∧ lcLoop vs a gt fe (ds.drop i) acc q' = some (accE, qE),
      ⟨_, rfl, Nat.zero_le _, S, r, wipeQ q vs, [], [], Ex.refl _, Rle.refl _, (E.add hp _).wiped vs, RepL.nil, el⟩, ?_⟩
    rintro i m H1 ⟨rfl, hi', S1, r1, q1, us, acc, e1, k1, E1, ra, hl⟩
    by_cases hlt : i < ds.length
    · have hd : ds[i]? = some ds[i] := List.getElem?_eq_getElem hlt
      have hdrop : ds.drop i = ds[i] :: ds.drop (i + 1) := List.drop_eq_getElem_cons hlt
      rw [hdrop] at hl
      obtain ⟨go, yl⟩ := w.go _ S1 H1 r1 _ q1 i _ e1 E1 hd
      refine .inr ⟨go, fun H' => i + 1 ≤ ds.length ∧ ∃ S' r' q' us acc, Ex S S' ∧ Rle r r' ∧ Env K (upd F p (.lst us)) S' H' r' (wipe σ vs) q' ∧ RepL K S' acc us ∧ lcLoop vs a gt fe (ds.drop (i + 1)) acc q' = some (accE, qE), fun H' ⟨h1, h2⟩ => ⟨_, by omega, rfl, h1, h2⟩, fun x H' y => ?_⟩
      obtain ⟨S2, e2, E2, rx⟩ := yl x H' y
      unfold lcLoop at hl
      cases ea : a (.d ds[i]) q1 with
      | none => rw [ea] at hl; cases hl
      | some q2 =>
        rw [ea] at hl
        refine hg (.d ds[i]) x _ S2 H' r1 _ q1 q2 E2 rx ea _ fun σ2 E3 ag => ?_
        have hw : wipe σ2 vs = wipe σ vs := by
          rw [agree_wipe ag hjs]
          -- wiping twice
          apply List.ext_getElem?
          intro j
          by_cases hm : j ∈ vs
          · by_cases hl' : j < σ.length
            · have key : ∀ (τ : L2.St) (us : List Nat), j ∈ us → j < τ.length → (wipe τ us)[j]? = some none := by
                intro τ us
                induction us with
                | nil => intro z; cases z
                | cons u us ih2 =>
                  intro z hτ
                  unfold wipe
                  by_cases e : u = j
                  · subst e
                    rw [List.getElem?_set_self (by rw [wipe_length]; exact hτ)]
                  · rw [List.getElem?_set_ne e]
                    rcases List.mem_cons.mp z with z | z
                    · exact absurd z.symm e
                    · exact ih2 z hτ
              rw [key _ _ hm (by rw [wipe_length]; exact hl'), key _ _ hm hl']
            · rw [List.getElem?_eq_none (by rw [wipe_length, wipe_length]; omega), List.getElem?_eq_none (by rw [wipe_length]; omega)]
          · rw [wipe_get hm]
        refine ⟨hw, ?_⟩
        have hi1 : i + 1 ≤ ds.length := hlt
        cases eg : gt q2 with
        | none => simp only [eg] at hl; cases hl
        | some y2 =>
          obtain ⟨b, q3⟩ := y2
          simp only [eg] at hl
          cases b with
          | error c => cases hl
          | ok b =>
            refine ht _ S2 H' r1 σ2 q2 _ E3 eg _ fun b' S3 H3 r3 e3 k3 E4 hb => ?_
            have hb' : b = b' := hb
            subst hb'
            cases b with
            | false =>
              refine iteF ⟨hi1, S3, r3, wipeQ q3 vs, us, acc, (e1.trans e2).trans e3, k1.trans k3, ?_, RepL.mono (e2.trans e3) _ _ ra, hl⟩
              rw [← hw]
              exact E4.wiped vs
            | true =>
              refine iteT ?_
              cases ee : fe q3 with
              | none => simp only [ee] at hl; cases hl
              | some y3 =>
                obtain ⟨xe, q4⟩ := y3
                simp only [ee] at hl
                cases xe with
                | error c => cases hl
                | ok xe =>
                  cases xe with
                  | h n => cases hl
                  | d xd =>
                    refine he _ S3 H3 r3 σ2 q3 _ E4 ee _ fun v S4 H4 r4 e4 k4 E5 rv => ?_
                    have hacc : acc.length < big ∧ lcLoop vs a gt fe (ds.drop (i + 1)) (acc ++ [xd]) (wipeQ q4 vs) = some (accE, qE) := by
                      by_cases hb : acc.length < big
                      · simp only [if_pos hb] at hl
                        exact ⟨hb, hl⟩
                      · simp only [if_neg hb] at hl
                        cases hl
                    have ra4 := RepL.mono ((e2.trans e3).trans e4) _ _ ra
                    refine ⟨us, E5.fr upd_same, ?_, hi1, S4, r4, wipeQ q4 vs, us ++ [v], acc ++ [xd], ((e1.trans e2).trans e3).trans e4, (k1.trans k3).trans k4, ?_, ra4.append (RepL.one rv), hacc.2⟩
                    · rw [← ra4.length]
                      exact Nat.lt_of_lt_of_le hacc.1 (by decide)
                    · rw [← hw]
                      exact (E5.write _).wiped vs
    · have ei : i = ds.length := by omega
      subst ei
      rw [List.drop_length] at hl
      have ez : some (acc, q1) = some (accE, qE) := hl
      cases ez
      exact .inl ⟨w.stop _ S1 H1 r1 _ _ _ e1 E1 (Nat.le_refl _), P p us S1 H1 r1 e1 k1 hF (Env.back e1 k1 E E1) ra⟩
end
end Den

namespace Den
open PySem PySem.Spec PyProof.Rows L2
open Evl (Ex)
section
variable {K : PySem.W.Frag} {F S S' H H' : Hp} {r r' : List Addr} {σ σ' : L2.St} {q q' : Stt} {v w : V}
theorem rh_int {i : Int} (h : RepH K S H (.int i) v) : v = .int i := by
  have h' : Rep K S (.int i) v := h
  rw [Rep] at h'
  exact h'
theorem rh_bl {i : Bool} (h : RepH K S H (.bl i) v) : v = .bl i := by
  have h' : Rep K S (.bl i) v := h
  rw [Rep] at h'
  exact h'
theorem rh_str {i : Str} (h : RepH K S H (.str i) v) : v = .str i := by
  have h' : Rep K S (.str i) v := h
  rw [Rep] at h'
  exact h'
theorem rh_non (h : RepH K S H .non v) : v = .non := by
  have h' : Rep K S .non v := h
  rw [Rep] at h'
  exact h'
theorem rh_ty {n : String} (h : RepH K S H (.ty n) v) : v = .ty n := by
  have h' : Rep K S (.ty n) v := h
  rw [Rep] at h'
  exact h'
theorem rh_tup {ds : List D} (E : Ex S H) (h : RepH K S H (.tup ds) v) : ∃ a vs, v = .ref a ∧ SqT K H a vs ∧ SqT K S a vs ∧ RepL K S ds vs := by
  have h' : Rep K S (.tup ds) v := h
  rw [Rep] at h'
  obtain ⟨a, vs, h1, h2, h3⟩ := h'
  exact ⟨a, vs, h1, Evl.ex_t E h2, h2, h3⟩
theorem rh_seq {ds : List D} (E : Ex S H) (h : RepH K S H (.seq ds) v) : ∃ a vs, v = .ref a ∧ SqL K H a vs ∧ RepL K S ds vs := by
  have h' : Rep K S (.seq ds) v := h
  rw [Rep] at h'
  obtain ⟨a, vs, h1, h2, h3⟩ := h'
  exact ⟨a, vs, h1, Evl.ex_l E h2, h3⟩
theorem rp_int {i : Int} : Rep K S (.int i) (.int i) := by rw [Rep]
theorem rp_bl {i : Bool} : Rep K S (.bl i) (.bl i) := by rw [Rep]
theorem rp_str {i : Str} : Rep K S (.str i) (.str i) := by rw [Rep]
theorem rp_non : Rep K S .non .non := by rw [Rep]
theorem rp_ty {n : String} : Rep K S (.ty n) (.ty n) := by rw [Rep]
/-- a new tuple -/
theorem new_tup {ds : List D} {vs : List V} {p : Addr} (E : Env K F S H r σ q) (hp : H p = none) (rp : RepL K S ds vs) :
    ∃ S', Ex S S' ∧ Env K F S' (upd H p (.tup vs)) r σ q ∧ Rep K S' (.tup ds) (.ref p) := by
  obtain ⟨E2, ex⟩ := (E.add hp (.tup vs)).settle (E.newF hp)
  refine ⟨_, ex, E2, ?_⟩
  rw [Rep]
  exact ⟨p, vs, rfl, SqT.of upd_same, RepL.mono ex _ _ rp⟩
theorem new_lst {ds : List D} {vs : List V} {p : Addr} (E : Env K F S H r σ q) (hp : H p = none) (rp : RepL K S ds vs) :
    ∃ S', Ex S S' ∧ Env K F S' (upd H p (.lst vs)) r σ q ∧ Rep K S' (.lst ds) (.ref p) := by
  obtain ⟨E2, ex⟩ := (E.add hp (.lst vs)).settle (E.newF hp)
  refine ⟨_, ex, E2, ?_⟩
  rw [Rep]
  exact ⟨p, vs, rfl, upd_same, RepL.mono ex _ _ rp⟩
end
/-! ### arithmetic -/
def r2Or (r r' : R2) : R2 := fun x y H Q => r x y H Q ∨ r' x y H Q
def rAddI : R2 := rI0 fun i j => .int (i + j)
def rAddS : R2 := fun x y H Q => ∃ i j, x = .str i ∧ y = .str j ∧ i.length + j.length ≤ sizeLine ∧ Q (.str (i ++ j)) H
def rAddX (K : PySem.W.Frag) : R2 := r2Or rAddI (r2Or rAddS (r2Or rCat (rCatA K)))
theorem op_addX {X : Cx} : OpR X (binaryOp .Add) (rAddX X.K) := OpR.or op_add (OpR.or op_add_str (OpR.or op_cat op_catA))
def gAdd : D → D → Option D
  | .int i, .int j => some (.int (i + j))
  | .str i, .str j => if i.length + j.length ≤ big then some (.str (i ++ j)) else none
  | .lst xs, .lst ys => if xs.length + ys.length ≤ big then some (.lst (xs ++ ys)) else none
  | .tup xs, .tup ys => if xs.length + ys.length ≤ big then some (.tup (xs ++ ys)) else none
  | _, _ => none
theorem len0 {K : PySem.W.Frag} {S : Hp} {vs : List V} (h : RepL K S [] vs) : vs = [] := by
  rw [RepL] at h
  exact h
theorem r2_add {K : PySem.W.Frag} : R2ok K (rAddX K) gAdd := by
  intro F S H r σ q x y z vx vy E rx ry hz Q k
  unfold gAdd at hz
  split at hz
  · cases hz
    exact .inl ⟨_, _, rh_int rx, rh_int ry, k _ S H (Ex.refl _) E rp_int⟩
  · obtain ⟨hl, e⟩ := ifs hz
    subst e
    exact .inr (.inl ⟨_, _, rh_str rx, rh_str ry, big_line hl, k _ S H (Ex.refl _) E rp_str⟩)
  · obtain ⟨hl, e⟩ := ifs hz
    subst e
    obtain ⟨a, vs, rfl, h1, h2⟩ := rx
    obtain ⟨b, us, rfl, h3, h4⟩ := ry
    refine .inr (.inr (.inl ⟨a, b, vs, us, rfl, rfl, h1, h3, by rw [← h2.length, ← h4.length]; exact big_line hl, fun p hp => ?_⟩))
    obtain ⟨S', ex, E', rp⟩ := new_lst E hp (h2.append h4)
    exact k _ S' _ ex E' rp
  · obtain ⟨hl, e⟩ := ifs hz
    subst e
    obtain ⟨a, vs, rfl, h1, h1', h2⟩ := rh_tup E.sub rx
    obtain ⟨b, us, rfl, h3, h3', h4⟩ := rh_tup E.sub ry
    refine .inr (.inr (.inr ⟨a, b, vs, us, rfl, rfl, h1, h3, by rw [← h2.length, ← h4.length]; exact big_line hl, fun e => ?_, fun _ e => ?_, fun _ _ p hp => ?_⟩))
    · subst e
      have e2 := List.eq_nil_of_length_eq_zero h2.length
      subst e2
      refine k _ S H (Ex.refl _) E ?_
      rw [Rep]
      exact ⟨b, us, rfl, h3', h4⟩
    · subst e
      have e2 := List.eq_nil_of_length_eq_zero h4.length
      subst e2
      refine k _ S H (Ex.refl _) E ?_
      rw [Rep]
      exact ⟨a, vs, rfl, h1', by rw [List.append_nil]; exact h2⟩
    · obtain ⟨S', ex, E', rp⟩ := new_tup E hp (h2.append h4)
      exact k _ S' _ ex E' rp
  · cases hz
def gI (g : Int → Int → Option Int) : D → D → Option D
  | .int i, .int j => (g i j).map .int
  | _, _ => none
theorem r2_I {K : PySem.W.Frag} {C : Int → Int → Prop} {f : Int → Int → Int} {g : Int → Int → Option Int} (h : ∀ i j k, g i j = some k → C i j ∧ f i j = k) : R2ok K (rI C fun i j => .int (f i j)) (gI g) := by
  intro F S H r σ q x y z vx vy E rx ry hz Q k
  unfold gI at hz
  split at hz
  · rename_i i j
    cases e : g i j with
    | none => rw [e] at hz; cases hz
    | some m =>
      rw [e] at hz
      cases hz
      obtain ⟨h1, h2⟩ := h i j m e
      refine ⟨i, j, rh_int rx, rh_int ry, h1, ?_⟩
      show Q (.int (f i j)) H
      rw [h2]
      exact k _ S H (Ex.refl _) E rp_int
  · cases hz
def gMinus : D → D → Option D := gI fun i j => some (i - j)
theorem r2_sub {K : PySem.W.Frag} : R2ok K (rI0 fun i j => .int (i - j)) gMinus := by
  intro F S H r σ q x y z vx vy E rx ry hz Q k
  obtain ⟨i, j, h1, h2, _, h3⟩ := r2_I (C := fun _ _ => True) (f := fun i j => i - j) (fun i j m h => ⟨trivial, Option.some.inj h⟩) F S H r σ q x y z vx vy E rx ry hz Q k
  exact ⟨i, j, h1, h2, h3⟩
def mulOk (i j : Int) : Bool := decide ((-(2 ^ 64) < i ∧ i < 2 ^ 64) ∨ (-(2 ^ 64) < j ∧ j < 2 ^ 64))
def gMul : D → D → Option D := gI fun i j => if mulOk i j then some (i * j) else none
theorem r2_mul {K : PySem.W.Frag} : R2ok K (rI CMul fun i j => .int (i * j)) gMul := r2_I fun i j k h => by
  have h2 := ifs h
  have h3 : (-(2 ^ 64) < i ∧ i < 2 ^ 64) ∨ (-(2 ^ 64) < j ∧ j < 2 ^ 64) := of_decide_eq_true h2.1
  exact ⟨h3, h2.2⟩
def gDiv : D → D → Option D := gI fun i j => if 0 < j ∧ j < 1073741824 then some (i / j) else none
theorem r2_div {K : PySem.W.Frag} : R2ok K (rI CDiv fun i j => .int (i / j)) gDiv := r2_I fun i j k h => by
  have h2 := ifs h
  exact ⟨h2.1, h2.2⟩
def gMod : D → D → Option D := gI fun i j => if 0 < j then some (i % j) else none
theorem r2_mod {K : PySem.W.Frag} : R2ok K (rI (fun _ j => 0 < j) fun i j => .int (i % j)) gMod := r2_I fun i j k h => by
  have h2 := ifs h
  exact ⟨h2.1, h2.2⟩
def gPow : D → D → Option D := gI fun i j => if 0 ≤ j ∧ j ≤ 1000000 ∧ i.natAbs < 2 ^ 64 then some (i ^ j.toNat) else none
theorem r2_pow {K : PySem.W.Frag} : R2ok K (rI CPow fun i j => .int (i ^ j.toNat)) gPow := r2_I fun i j k h => by
  have h2 := ifs h
  exact ⟨h2.1, h2.2⟩
def eUn (g : D → Option D) (f : ME XV) : ME XV := bnd f fun x => lft (match x with | .d d => (g d).map .d | _ => none)
def gNeg : D → Option D
  | .int i => some (.int (-i))
  | _ => none
section
variable {X : Cx} {W : WX} {e e1 e2 e3 tg : Expr} {es : List Expr} {t t1 t2 t3 : TE} {ta : TA} {f f1 f2 f3 : ME XV} {fa : ME (List XV)} {pos p : Pos} {K : PySem.W.Frag}
theorem is_neg (h : IsE X W e t f) : IsE X W (.UnaryOp .USub e pos) (tUn (rU fun i => .int (-i)) t) (eUn gNeg f) := by
  refine ⟨pe_un un_neg h.pe, ?_⟩
  refine Tok.bind (t2 := fun x σ H Q => rU (fun i => .int (-i)) x H Q) h.ok fun x v F S H r σ q z E rx hz Q P => ?_
  cases x with
  | h n => cases hz
  | d x =>
    cases x with
    | int i =>
      cases hz
      exact ⟨i, xr_int rx, P _ S H r (Ex.refl _) (Rle.refl _) E (show Rep X.K S (.int (-i)) (.int (-i)) from rp_int)⟩
    | _ => cases hz
theorem is_add (h1 : IsE X W e1 t1 f1) (h2 : IsE X W e2 t2 f2) : IsE X W (.BinOp e1 .Add e2 pos) (tOp (rAddX X.K) t1 t2) (eOp gAdd f1 f2) := is_op op_addX r2_add h1 h2
theorem is_sub (h1 : IsE X W e1 t1 f1) (h2 : IsE X W e2 t2 f2) : IsE X W (.BinOp e1 .Sub e2 pos) (tOp (rI0 fun i j => .int (i - j)) t1 t2) (eOp gMinus f1 f2) := is_op op_sub r2_sub h1 h2
theorem is_mul (h1 : IsE X W e1 t1 f1) (h2 : IsE X W e2 t2 f2) : IsE X W (.BinOp e1 .Mult e2 pos) (tOp (rI CMul fun i j => .int (i * j)) t1 t2) (eOp gMul f1 f2) := is_op op_mul r2_mul h1 h2
theorem is_div (h1 : IsE X W e1 t1 f1) (h2 : IsE X W e2 t2 f2) : IsE X W (.BinOp e1 .FloorDiv e2 pos) (tOp (rI CDiv fun i j => .int (i / j)) t1 t2) (eOp gDiv f1 f2) := is_op op_fdiv r2_div h1 h2
theorem is_mod (h1 : IsE X W e1 t1 f1) (h2 : IsE X W e2 t2 f2) : IsE X W (.BinOp e1 .Mod e2 pos) (tOp (rI (fun _ j => 0 < j) fun i j => .int (i % j)) t1 t2) (eOp gMod f1 f2) := is_op op_mod r2_mod h1 h2
theorem is_pow (h1 : IsE X W e1 t1 f1) (h2 : IsE X W e2 t2 f2) : IsE X W (.BinOp e1 .Pow e2 pos) (tOp (rI CPow fun i j => .int (i ^ j.toNat)) t1 t2) (eOp gPow f1 f2) := is_op op_pow r2_pow h1 h2
end
/-! ### comparisons -/
def gC (g : Int → Int → Bool) : D → D → Option D
  | .int i, .int j => some (.bl (g i j))
  | _, _ => none
theorem r2_C {K : PySem.W.Frag} {g : Int → Int → Bool} : R2ok K (rI0 fun i j => .bl (g i j)) (gC g) := by
  intro F S H r σ q x y z vx vy E rx ry hz Q k
  unfold gC at hz
  split at hz
  · cases hz
    exact ⟨_, _, rh_int rx, rh_int ry, k _ S H (Ex.refl _) E rp_bl⟩
  · cases hz
/-! == of scalars, and of data without dicts -/
mutual
def toPy : D → Option PyData
  | .non => some .none
  | .bl b => some (.bool b)
  | .int i => some (.int i)
  | .str s => some (.str s)
  | .tup ds => (toPyL ds).map .tuple
  | .lst ds => (toPyL ds).map .list
  | .ty _ => none
  | .ob _ => none
  | .seq _ => none
  | .dic _ _ => none
  | .dit _ _ => none
def toPyL : List D → Option (List PyData)
  | [] => some []
  | d :: ds => match toPy d, toPyL ds with
    | some x, some xs => some (x :: xs)
    | _, _ => none
end
mutual
theorem dp_of {K : PySem.W.Frag} {S H : Hp} (E : Ex S H) : ∀ (d : D) (x : PyData) (v : V), toPy d = some x → Rep K S d v → Dp K H v x
  | .non, x, v, h, rp => by
    rw [toPy] at h; cases h
    rw [Rep] at rp; subst rp; exact .non
  | .bl b, x, v, h, rp => by
    rw [toPy] at h; cases h
    rw [Rep] at rp; subst rp; exact .bl _
  | .int b, x, v, h, rp => by
    rw [toPy] at h; cases h
    rw [Rep] at rp; subst rp; exact .int _
  | .str b, x, v, h, rp => by
    rw [toPy] at h; cases h
    rw [Rep] at rp; subst rp; exact .str _
  | .tup ds, x, v, h, rp => by
    rw [toPy] at h
    cases e : toPyL ds with
    | none => rw [e] at h; cases h
    | some xs =>
      rw [e] at h; cases h
      rw [Rep] at rp
      obtain ⟨a, vs, rfl, h1, h2⟩ := rp
      exact .tup (Evl.ex_t E h1) (dpL_of E ds xs vs e h2)
  | .lst ds, x, v, h, rp => by
    rw [toPy] at h
    cases e : toPyL ds with
    | none => rw [e] at h; cases h
    | some xs =>
      rw [e] at h; cases h
      rw [Rep] at rp
      obtain ⟨a, vs, rfl, h1, h2⟩ := rp
      exact .lst (SqL.of (E _ _ h1)) (dpL_of E ds xs vs e h2)
  | .ty _, x, v, h, rp => by rw [toPy] at h; cases h
  | .ob _, x, v, h, rp => by rw [toPy] at h; cases h
  | .seq _, x, v, h, rp => by rw [toPy] at h; cases h
  | .dic _ _, x, v, h, rp => by rw [toPy] at h; cases h
  | .dit _ _, x, v, h, rp => by rw [toPy] at h; cases h
theorem dpL_of {K : PySem.W.Frag} {S H : Hp} (E : Ex S H) : ∀ (ds : List D) (xs : List PyData) (vs : List V), toPyL ds = some xs → RepL K S ds vs → DpAll K H vs xs
  | [], xs, vs, h, rp => by
    rw [toPyL] at h; cases h
    rw [RepL] at rp; subst rp; exact .nil
  | d :: ds, xs, vs, h, rp => by
    rw [toPyL] at h
    rw [RepL] at rp
    obtain ⟨v, t, rfl, h1, h2⟩ := rp
    cases e1 : toPy d with
    | none => rw [e1] at h; cases h
    | some x =>
      cases e2 : toPyL ds with
      | none => rw [e1, e2] at h; cases h
      | some ys =>
        rw [e1, e2] at h; cases h
        exact .cons (dp_of E d x v e1 h1) (dpL_of E ds ys t e2 h2)
end
def scalD : D → D → Option Bool
  | .non, .non => some true
  | .int i, .int j => some (decide (i = j))
  | .bl i, .bl j => some (decide (i = j))
  | .str i, .str j => some (decide (i = j))
  | .non, .int _ | .int _, .non | .non, .bl _ | .bl _, .non | .non, .str _ | .str _, .non | .int _, .str _ | .str _, .int _ | .bl _, .str _ | .str _, .bl _ => some false
  | _, _ => none
def deepD (x y : D) : Option Bool := match toPy x, toPy y with
  | some d, some e => if SeqAt.shaped d = true ∧ SeqAt.shaped e = true then some (PyData.eqv d e) else none
  | _, _ => none
def allInt : List D → Bool
  | [] => true
  | .int _ :: ds => allInt ds
  | _ => false
def sameInts : List D → List D → Bool
  | [], [] => true
  | .int i :: xs, .int j :: ys => decide (i = j) && sameInts xs ys
  | _, _ => false
/-- two dicts of ints that are alike, key by key -/
def dicSame : D → D → Bool
  | .dic ks xs, .dic ls ys => decide (ks = ls ∧ ks.Nodup) && sameInts xs ys
  | _, _ => false
def gEq (x y : D) : Option D := match scalD x y with
  | some b => some (.bl b)
  | none => if dicSame x y then some (.bl true) else (deepD x y).map .bl
def gNe (x y : D) : Option D := match scalD x y with
  | some b => some (.bl (!b))
  | none => if dicSame x y then some (.bl false) else (deepD x y).map fun b => .bl (!b)
theorem sameInts_rep {K : PySem.W.Frag} {S : Hp} : ∀ {xs ys : List D} {vs us : List V}, sameInts xs ys = true → RepL K S xs vs → RepL K S ys us → vs = us ∧ ∀ v ∈ vs, flatB v = true
  | [], [], vs, us, _, h1, h2 => by
    have e1 : vs = [] := by rw [RepL] at h1; exact h1
    have e2 : us = [] := by rw [RepL] at h2; exact h2
    subst e1 e2
    exact ⟨rfl, fun v hv => by cases hv⟩
  | .int i :: xs, .int j :: ys, vs, us, h, h1, h2 => by
    have h' : (decide (i = j) && sameInts xs ys) = true := h
    rw [Bool.and_eq_true] at h'
    have e := of_decide_eq_true h'.1
    subst e
    rw [RepL] at h1 h2
    obtain ⟨v, t, rfl, a1, a2⟩ := h1
    obtain ⟨u, t', rfl, b1, b2⟩ := h2
    rw [Rep] at a1 b1
    obtain ⟨e2, f⟩ := sameInts_rep h'.2 a2 b2
    subst e2
    subst a1 b1
    refine ⟨rfl, fun v hv => ?_⟩
    rcases List.mem_cons.mp hv with z | z
    · rw [z]; rfl
    · exact f v z
theorem zip_valV {k : Type} [DecidableEq k] : ∀ {ks : List k} {vs : List V} {p : k × V}, ks.Nodup → p ∈ ks.zip vs → valV (ks.zip vs) p.1 = some p.2
  | [], vs, p, _, h => by simp at h
  | _ :: _, [], p, _, h => by simp at h
  | a :: ks, v :: vs, p, hn, h => by
    rw [List.zip_cons_cons] at h ⊢
    rw [List.nodup_cons] at hn
    rcases List.mem_cons.mp h with e | h
    · subst e
      exact valV_pos (p := (a, v)) rfl
    · have hne : ¬ (a, v).1 = p.1 := fun e => hn.1 (by
        have := (List.of_mem_zip (a := p.1) (b := p.2) h).1
        rw [← e] at this
        exact this)
      rw [valV_neg hne]
      exact zip_valV hn.2 h
theorem dicSame_of {K : PySem.W.Frag} {S H : Hp} {x y : D} {vx vy : V} (h : dicSame x y = true) (rx : RepH K S H x vx) (ry : RepH K S H y vy) :
    ∃ a b ks ls, vx = .ref a ∧ vy = .ref b ∧ H a = some (.dK ks) ∧ H b = some (.dK ls) ∧ ks.length = ls.length ∧ (∀ p ∈ ks, valV ls p.1 = some p.2 ∧ flatB p.2 = true) := by
  unfold dicSame at h
  split at h
  · rename_i ks xs ls ys
    rw [Bool.and_eq_true] at h
    obtain ⟨h1, h2⟩ := h
    obtain ⟨e, hn⟩ := of_decide_eq_true h1
    subst e
    obtain ⟨a, vs, rfl, ha, la, ra⟩ := rx
    obtain ⟨b, us, rfl, hb, lb, rb⟩ := ry
    obtain ⟨e, fl⟩ := sameInts_rep h2 ra rb
    subst e
    exact ⟨a, b, _, _, rfl, rfl, ha, hb, rfl, fun p hp => ⟨zip_valV hn hp, fl _ (List.of_mem_zip (a := p.1) (b := p.2) hp).2⟩⟩
  · cases h
theorem scal_of {K : PySem.W.Frag} {S H : Hp} {x y : D} {vx vy : V} {b : Bool} (h : scalD x y = some b) (rx : RepH K S H x vx) (ry : RepH K S H y vy) : scal vx vy = true ∧ decide (vx = vy) = b := by
  unfold scalD at h
  split at h <;> (try (cases h))
  · rw [rh_non rx, rh_non ry]; exact ⟨rfl, rfl⟩
  · rw [rh_int rx, rh_int ry]; exact ⟨rfl, by rw [dec_int]; rfl⟩
  · rw [rh_bl rx, rh_bl ry]; exact ⟨rfl, by rw [dec_bl]; rename_i i j; cases i <;> cases j <;> rfl⟩
  · rw [rh_str rx, rh_str ry]; exact ⟨rfl, by rw [dec_str]; rw [Bool.beq_eq_decide_eq]⟩
  · rw [rh_non rx, rh_int ry]; exact ⟨rfl, rfl⟩
  · rw [rh_int rx, rh_non ry]; exact ⟨rfl, rfl⟩
  · rw [rh_non rx, rh_bl ry]; exact ⟨rfl, rfl⟩
  · rw [rh_bl rx, rh_non ry]; exact ⟨rfl, rfl⟩
  · rw [rh_non rx, rh_str ry]; exact ⟨rfl, rfl⟩
  · rw [rh_str rx, rh_non ry]; exact ⟨rfl, rfl⟩
  · rw [rh_int rx, rh_str ry]; exact ⟨rfl, rfl⟩
  · rw [rh_str rx, rh_int ry]; exact ⟨rfl, rfl⟩
  · rw [rh_bl rx, rh_str ry]; exact ⟨rfl, rfl⟩
  · rw [rh_str rx, rh_bl ry]; exact ⟨rfl, rfl⟩
/-- deep data as it stands now -/
theorem dpH_of {K : PySem.W.Frag} {S H : Hp} (E : Ex S H) {d : D} {x : PyData} {v : V} (h : toPy d = some x) (rp : RepH K S H d v) : Dp K H v x := by
  cases d with
  | lst ds =>
    rw [toPy] at h
    cases e : toPyL ds with
    | none => rw [e] at h; cases h
    | some xs =>
      rw [e] at h; cases h
      obtain ⟨a, vs, rfl, h1, h2⟩ := rp
      exact .lst (SqL.of h1) (dpL_of E ds xs vs e h2)
  | dic ks ds => rw [toPy] at h; cases h
  | dit ks ds => rw [toPy] at h; cases h
  | _ => exact dp_of E _ _ _ h rp
def rEqX (K : PySem.W.Frag) : R2 := r2Or rEq (r2Or (rEqD K) rEqDA)
def rNeX (K : PySem.W.Frag) : R2 := r2Or rNe (r2Or (rNeD K) rNeDA)
theorem deep_of {K : PySem.W.Frag} {S H : Hp} (E : Ex S H) {x y : D} {vx vy : V} {b : Bool} (h : deepD x y = some b) (rx : RepH K S H x vx) (ry : RepH K S H y vy) : ∃ d e, Dp K H vx d ∧ Dp K H vy e ∧ SeqAt.shaped d = true ∧ SeqAt.shaped e = true ∧ PyData.eqv d e = b := by
  unfold deepD at h
  cases e1 : toPy x with
  | none => rw [e1] at h; cases h
  | some d =>
    cases e2 : toPy y with
    | none => rw [e1, e2] at h; cases h
    | some e =>
      rw [e1, e2] at h
      obtain ⟨h1, h2⟩ := ifs h
      exact ⟨d, e, dpH_of E e1 rx, dpH_of E e2 ry, h1.1, h1.2, h2⟩
theorem r2_eq {K : PySem.W.Frag} : R2ok K (rEqX K) gEq := by
  intro F S H r σ q x y z vx vy E rx ry hz Q k
  unfold gEq at hz
  --DICeq
  cases e : scalD x y with
  | some b =>
    rw [e] at hz
    cases hz
    obtain ⟨h1, h2⟩ := scal_of e rx ry
    exact .inl ⟨h1, by rw [h2]; exact k _ S H (Ex.refl _) E rp_bl⟩
  | none =>
    rw [e] at hz
    by_cases hd : dicSame x y = true
    · simp only [if_pos hd] at hz
      cases hz
      obtain ⟨a, b, ks, ls, h1, h2, h3, h4, h5, h6⟩ := dicSame_of hd rx ry
      exact .inr (.inr ⟨a, b, ks, ls, h1, h2, h3, h4, h5, h6, k _ S H (Ex.refl _) E rp_bl⟩)
    · simp only [if_neg hd] at hz
      cases e2 : deepD x y with
      | none => rw [e2] at hz; cases hz
      | some b =>
        rw [e2] at hz
        cases hz
        obtain ⟨d1, d2, h1, h2, h3, h4, h5⟩ := deep_of E.sub e2 rx ry
        exact .inr (.inl ⟨d1, d2, h1, h2, h3, h4, by rw [h5]; exact k _ S H (Ex.refl _) E rp_bl⟩)
theorem r2_ne {K : PySem.W.Frag} : R2ok K (rNeX K) gNe := by
  intro F S H r σ q x y z vx vy E rx ry hz Q k
  unfold gNe at hz
  --DICne
  cases e : scalD x y with
  | some b =>
    rw [e] at hz
    cases hz
    obtain ⟨h1, h2⟩ := scal_of e rx ry
    exact .inl ⟨h1, by rw [h2]; exact k _ S H (Ex.refl _) E rp_bl⟩
  | none =>
    rw [e] at hz
    by_cases hd : dicSame x y = true
    · simp only [if_pos hd] at hz
      cases hz
      obtain ⟨a, b, ks, ls, h1, h2, h3, h4, h5, h6⟩ := dicSame_of hd rx ry
      exact .inr (.inr ⟨a, b, ks, ls, h1, h2, h3, h4, h5, h6, k _ S H (Ex.refl _) E rp_bl⟩)
    · simp only [if_neg hd] at hz
      cases e2 : deepD x y with
      | none => rw [e2] at hz; cases hz
      | some b =>
        rw [e2] at hz
        cases hz
        obtain ⟨d1, d2, h1, h2, h3, h4, h5⟩ := deep_of E.sub e2 rx ry
        exact .inr (.inl ⟨d1, d2, h1, h2, h3, h4, by rw [h5]; exact k _ S H (Ex.refl _) E rp_bl⟩)
theorem op_eqX {X : Cx} (hu : X.A.units + 64 < cLine) : OpR X (compareOp .Eq) (rEqX X.K) := OpR.or op_eq (OpR.or (op_eqD hu) (op_eq_dictA (by omega)))
theorem op_neX {X : Cx} (hu : X.A.units + 64 < cLine) : OpR X (compareOp .NotEq) (rNeX X.K) := OpR.or op_ne (OpR.or (op_neD hu) (op_ne_dictA (by omega)))
def rIsN : R2 := fun x y H Q => y = .non ∧ Q (.bl (decide (x = .non))) H
def rNotN : R2 := fun x y H Q => y = .non ∧ Q (.bl (!decide (x = .non))) H
def isN : D → Bool
  | .non => true
  | _ => false
def gIsN : D → D → Option D
  | x, .non => some (.bl (isN x))
  | _, _ => none
def gNotN : D → D → Option D
  | x, .non => some (.bl (!isN x))
  | _, _ => none
theorem isN_of {K : PySem.W.Frag} {S H : Hp} {x : D} {v : V} (rx : RepH K S H x v) : decide (v = .non) = isN x := by
  cases x with
  | non => rw [rh_non rx]; rfl
  | bl b => rw [rh_bl rx]; rfl
  | int b => rw [rh_int rx]; rfl
  | str b => rw [rh_str rx]; rfl
  | ty b => rw [rh_ty rx]; rfl
  | ob a =>
    have h' : Rep K S (.ob a) v := rx
    rw [Rep] at h'
    subst h'
    rfl
  | tup ds =>
    have h' : Rep K S (.tup ds) v := rx
    rw [Rep] at h'
    obtain ⟨a, vs, rfl, _⟩ := h'
    rfl
  | seq ds =>
    have h' : Rep K S (.seq ds) v := rx
    rw [Rep] at h'
    obtain ⟨a, vs, rfl, _⟩ := h'
    rfl
  | lst ds =>
    obtain ⟨a, vs, rfl, _⟩ := rx
    rfl
  | dic ks ds =>
    obtain ⟨a, vs, rfl, _⟩ := rx
    rfl
  | dit ks ds =>
    obtain ⟨a, vs, rfl, _⟩ := rx
    rfl
theorem r2_isN {K : PySem.W.Frag} : R2ok K rIsN gIsN := by
  intro F S H r σ q x y z vx vy E rx ry hz Q k
  unfold gIsN at hz
  split at hz
  · cases hz
    exact ⟨rh_non ry, by rw [isN_of rx]; exact k _ S H (Ex.refl _) E rp_bl⟩
  · cases hz
theorem r2_notN {K : PySem.W.Frag} : R2ok K rNotN gNotN := by
  intro F S H r σ q x y z vx vy E rx ry hz Q k
  unfold gNotN at hz
  split at hz
  · cases hz
    exact ⟨rh_non ry, by rw [isN_of rx]; exact k _ S H (Ex.refl _) E rp_bl⟩
  · cases hz
/-! ### an item -/
def lookD {k : Type} [DecidableEq k] : List k → List D → k → Option D
  | a :: ks, d :: ds, b => if a = b then some d else lookD ks ds b
  | _, _, _ => none
def ORep (K : PySem.W.Frag) (S : Hp) : Option D → Option V → Prop
  | some d, some v => Rep K S d v
  | none, none => True
  | _, _ => False
theorem look_val {k : Type} [DecidableEq k] {K : PySem.W.Frag} {S : Hp} : ∀ {ks : List k} {ds : List D} {vs : List V} (b : k), RepL K S ds vs → ks.length = ds.length →
    ORep K S (lookD ks ds b) (valV (ks.zip vs) b)
  | [], [], vs, b, h, _ => by
    rw [len0 h]
    trivial
  | [], _ :: _, _, _, _, h => by simp at h
  | _ :: _, [], _, _, _, h => by simp at h
  | a :: ks, d :: ds, vs, b, h, hl => by
    rw [RepL] at h
    obtain ⟨v, t, rfl, h1, h2⟩ := h
    rw [List.zip_cons_cons]
    unfold lookD
    by_cases e : a = b
    · rw [if_pos e, valV_pos (p := (a, v)) e]
      exact h1
    · rw [if_neg e, valV_neg (p := (a, v)) e]
      exact look_val b h2 (by simpa using hl)
def keyD : D → Option Key
  | .int i => some (.inl i)
  | .str s => some (.inr s)
  | _ => none
def keysD : List D → Option (List Key)
  | [] => some []
  | d :: ds => match keyD d, keysD ds with
    | some k, some ks => some (k :: ks)
    | _, _ => none
theorem keyD_of {K : PySem.W.Frag} {S H : Hp} {d : D} {v : V} {k : Key} (h : keyD d = some k) (rp : Rep K S d v) : v = kV k := by
  cases d with
  | int i => cases h; rw [Rep] at rp; exact rp
  | str i => cases h; rw [Rep] at rp; exact rp
  | _ => cases h
theorem keysD_of {K : PySem.W.Frag} {S : Hp} : ∀ {ds : List D} {vs : List V} {ks : List Key}, keysD ds = some ks → RepL K S ds vs → vs = ks.map kV
  | [], vs, ks, h, rp => by cases h; rw [len0 rp]; rfl
  | d :: ds, vs, ks, h, rp => by
    rw [RepL] at rp
    obtain ⟨v, t, rfl, h1, h2⟩ := rp
    unfold keysD at h
    cases e1 : keyD d with
    | none => rw [e1] at h; cases h
    | some k =>
      cases e2 : keysD ds with
      | none => rw [e1, e2] at h; cases h
      | some ks =>
        rw [e1, e2] at h
        cases h
        rw [keyD_of (H := S) e1 h1, keysD_of e2 h2]
        rfl
/-- what a dict holds -/
def dgetD : D → D → Option (Option D)
  | .dic ks ds, y => (keyD y).map fun k => lookD ks ds k
  | _, _ => none
theorem dget_of {K : PySem.W.Frag} {S H : Hp} (E : Ex S H) {x y : D} {vx vy : V} {o : Option D} (h : dgetD x y = some o) (rx : RepH K S H x vx) (ry : RepH K S H y vy) :
    ∃ a ov, vx = .ref a ∧ DGet H a vy ov ∧ IsD H a ∧ ORep K S o ov := by
  cases x with
  | dic ks ds =>
    obtain ⟨a, vs, rfl, h1, h2, h3⟩ := rx
    have h' : (keyD y).map (fun k => lookD ks ds k) = some o := h
    cases e : keyD y with
    | none => rw [e] at h'; cases h'
    | some k =>
      rw [e] at h'
      cases h'
      have ry' : Rep K S y vy := by
        cases y with
        | int i => exact ry
        | str i => exact ry
        | _ => cases e
      rw [keyD_of (H := H) e ry']
      exact ⟨a, valV (ks.zip vs) k, rfl, DGet.k h1, .inl ⟨_, .inl h1⟩, look_val k h3 h2⟩
  | _ => cases h
theorem ix_dict {X : Cx} (hu : X.A.units + 1 < cLine) : IxR X (fun x y H Q => ∃ a v, x = .ref a ∧ DGet H a y (some v) ∧ Q v H) := by
  intro value slice pins s σ H x y v u Q I rx ry h hs
  obtain ⟨a, v1, rfl, g, q⟩ := h
  obtain rfl : v = Value.ref a := rx
  unfold subscriptTail
  have hT := dict_typeIs I g
  refine wpAny_bind ?_
  rw [getitemInPython_of_ne hT.not_modules]
  refine wpAny_bind (wpAny_specialOf hT PySem.F.slot_dict_getitem.lookup ?_)
  have fin : wpAny (model X.prog X.w) X.A (subscripted slice false (.ref a) u) (fun r s₃ => wpAny (model X.prog X.w) X.A (letTemporaryGo value (.ref a) r >>= fun _ => pure r) (EP X pins σ Q) X.xe s₃) X.xe s := by
    rw [hs]
    exact wpAny_operating (d_getItem hu I g ry fun w' s' I' rw' => wpAny_bind (wpAny_letTemporaryGo (wpAny_pure ⟨v1, H, I', rw', q⟩)))
  first
    | exact wpAny_pure (wpAny_bind fin)
    | exact wpAny_bind (wpAny_pure (wpAny_bind fin))
    | exact wpAny_bind fin
end Den

namespace Den
open PySem PySem.Spec PyProof.Rows L2
open Evl (Ex)
/-! ### an item, by values -/
section
variable {K : PySem.W.Frag} {F S S' H H' : Hp} {r r' : List Addr} {σ σ' : L2.St} {q q' : Stt} {v w : V}
theorem atI_rep {ds : List D} {vs : List V} {i : Int} {d : D} (rp : RepL K S ds vs) (h : atI ds i = some d) : ∃ v, atI vs i = some v ∧ Rep K S d v := by
  unfold atI at h ⊢
  rw [← rp.length]
  cases e : ixN ds.length i with
  | none => rw [e] at h; cases h
  | some j =>
    rw [e] at h
    exact rp.get h
theorem atI_xrep {ds : List XV} {vs : List V} {i : Int} {d : XV} (rp : XRepL K S r ds vs) (h : atI ds i = some d) : ∃ v, atI vs i = some v ∧ XRep K S r d v := by
  unfold atI at h ⊢
  rw [← rp.length]
  cases e : ixN ds.length i with
  | none => rw [e] at h; cases h
  | some j =>
    rw [e] at h
    exact rp.get h
end
def ixD : D → D → Option D
  | .tup ds, .int i => atI ds i
  | .lst ds, .int i => atI ds i
  | .seq ds, .int i => atI ds i
  | .str s, .int i => if s.length ≤ big then (atI s.cps.toList i).map fun c => .str ⟨#[c]⟩ else none
  | .dic ks ds, y => (keyD y).bind fun k => lookD ks ds k
  | _, _ => none
def rDix : R2 := fun x y H Q => ∃ a v, x = .ref a ∧ DGet H a y (some v) ∧ Q v H
def rIxX (K : PySem.W.Frag) : R2 := r2Or (rIx K) rDix
theorem ix_X {X : Cx} (hu : X.A.units + 1 < cLine) : IxR X (rIxX X.K) := IxR.or ix_seq (ix_dict hu)
theorem r2_ix {K : PySem.W.Frag} : R2ok K (rIxX K) ixD := by
  intro F S H r σ q x y z vx vy E rx ry hz Q k
  unfold ixD at hz
  split at hz
  · obtain ⟨a, vs, rfl, h1, h1', h2⟩ := rh_tup E.sub rx
    obtain ⟨v, h3, h4⟩ := atI_rep h2 hz
    exact .inl (.inr (.inl ⟨a, vs, _, v, rfl, rh_int ry, h1, h3, k _ S H (Ex.refl _) E h4⟩))
  · obtain ⟨a, vs, rfl, h1, h2⟩ := rx
    obtain ⟨v, h3, h4⟩ := atI_rep h2 hz
    exact .inl (.inl ⟨a, vs, _, v, rfl, rh_int ry, SqL.of h1, h3, k _ S H (Ex.refl _) E h4⟩)
  · obtain ⟨a, vs, rfl, h1, h2⟩ := rh_seq E.sub rx
    obtain ⟨v, h3, h4⟩ := atI_rep h2 hz
    exact .inl (.inl ⟨a, vs, _, v, rfl, rh_int ry, h1, h3, k _ S H (Ex.refl _) E h4⟩)
  · rename_i s i
    by_cases hl : s.length ≤ big
    · rw [if_pos hl] at hz
      cases e : atI s.cps.toList i with
      | none => rw [e] at hz; cases hz
      | some c =>
        rw [e] at hz
        cases hz
        exact .inl (.inr (.inr ⟨s, i, c, rh_str rx, rh_int ry, big_line hl, e, k _ S H (Ex.refl _) E rp_str⟩))
    · rw [if_neg hl] at hz
      cases hz
  · rename_i ks ds
    cases e : keyD y with
    | none => rw [e] at hz; cases hz
    | some kk =>
      rw [e] at hz
      have hz' : lookD ks ds kk = some z := hz
      obtain ⟨a, ov, rfl, g, _, o⟩ := dget_of (o := some z) E.sub (x := .dic ks ds) (y := y) (by show (keyD y).map _ = _; rw [e]; exact congrArg some hz') rx ry
      cases ov with
      | none => exact False.elim o
      | some v => exact .inr ⟨a, v, rfl, g, k _ S H (Ex.refl _) E o⟩
  · cases hz
def ixX (w : List WO) : XV → XV → Option XV
  | .d x, .d y => (ixD x y).map .d
  | .h n, .d (.int i) => match w[n]? with
    | some (.lst xs) => atI xs i
    | _ => none
  | _, _ => none
def eIx (f1 f2 : ME XV) : ME XV := bnd f1 fun x => bnd f2 fun y q => (ixX q.w x y).map fun z => (.ok z, q)
section
variable {X : Cx} {W : WX} {e e1 e2 e3 tg : Expr} {es : List Expr} {t t1 t2 t3 : TE} {ta : TA} {f f1 f2 f3 : ME XV} {fa : ME (List XV)} {pos p : Pos} {K : PySem.W.Frag} {fl : ME (List D)}
theorem tok_ix (h1 : Tok (RX K) K W t1 f1) (h2 : Tok (RX K) K W t2 f2) : Tok (RX K) K W (tOp (rIxX K) t1 t2) (eIx f1 f2) := by
  refine Tok.bind (t2 := fun x σ H Q => t2 σ H fun y H1 => rIxX K x y H1 Q) h1 (Beh.bind (t3 := fun x y σ H Q => rIxX K x y H Q) monoX h2 fun x v y w F S H r σ q z E rx ry hz Q P => ?_)
  have hz' : (ixX q.w x y).map (fun z => ((.ok z, q) : Rs XV)) = some z := hz
  cases e : ixX q.w x y with
  | none => rw [e] at hz'; cases hz'
  | some u =>
    rw [e] at hz'
    cases hz'
    unfold ixX at e
    split at e
    · rename_i x y
      cases e2 : ixD x y with
      | none => rw [e2] at e; cases e
      | some d =>
        rw [e2] at e
        cases e
        exact r2_ix F S H r σ q x y d v w E (Rep.toH E.sub rx) (Rep.toH E.sub ry) e2 Q fun v' S' H' ex E' rp => P v' S' H' r ex (Rle.refl _) E' rp
    · rename_i n i
      split at e
      · rename_i xs ew
        obtain ⟨ow, e0⟩ := id E
        obtain ⟨a, vs, g1, g2, g3, g4⟩ := e0.wob n _ ew
        obtain ⟨a', k1, k2⟩ := rx
        rw [g1] at k1
        cases k1
        subst k2
        obtain ⟨v', h3, h4⟩ := atI_xrep g4 e
        exact .inl (.inl ⟨a, vs, i, v', rfl, xr_int ry, SqL.of g3, h3, P v' S H r (Ex.refl _) (Rle.refl _) E h4⟩)
      · cases e
    · cases e
theorem is_ix (hu : X.A.units + 1 < cLine) (h1 : IsE X W e1 t1 f1) (h2 : IsE X W e2 t2 f2) (hs : PlainIx e2 := by exact fun _ _ => rfl) : IsE X W (.Subscript e1 e2 pos) (tOp (rIxX X.K) t1 t2) (eIx f1 f2) := ⟨pe_ix (ix_X hu) h1.pe h2.pe hs, tok_ix h1.ok h2.ok⟩
/-! ### what a name's slot holds, lent -/
def peek (q : Stt) (i : Nat) : Option D := match q.sl[i]? with
  | some (.dat d) => some d
  | some (.ol ds) => some (.lst ds)
  | some (.od ks ds) => some (.dic ks ds)
  | some (.ot ks ds) => some (.dit ks ds)
  | _ => none
theorem getD_some {a : Type} {o : Option (Option a)} {x : a} (h : o.getD none = some x) : o = some (some x) := by
  cases o with
  | none => cases h
  | some y => exact congrArg some h
theorem Env.peek {F S H : Hp} {r : List Addr} {σ : L2.St} {q : Stt} {i : Nat} {d : D} (E : Env K F S H r σ q) (h : peek q i = some d) : ∃ v, σ[i]? = some (some v) ∧ RepH K S H d v := by
  obtain ⟨ow, e⟩ := E
  unfold Den.peek at h
  cases es : q.sl[i]? with
  | none => rw [es] at h; cases h
  | some s =>
    rw [es] at h
    have hs := e.slot i s es
    cases s with
    | un => cases h
    | hnd n => cases h
    | dat d0 =>
      cases h
      obtain ⟨v, h1, h2⟩ := hs
      exact ⟨v, getD_some h1, h2.toH e.sub⟩
    | ol ds =>
      cases h
      obtain ⟨a, vs, h1, h2, h3, h4⟩ := hs
      exact ⟨.ref a, getD_some h1, a, vs, rfl, h3, h4⟩
    | od ks ds =>
      cases h
      obtain ⟨a, vs, h1, h2, h3, h5, h4⟩ := hs
      exact ⟨.ref a, getD_some h1, a, vs, rfl, h3, h5, h4⟩
    | ot ks ds =>
      cases h
      obtain ⟨a, vs, h1, h2, h3, h5, h4⟩ := hs
      exact ⟨.ref a, getD_some h1, a, vs, rfl, h3, h5, h4⟩
/-- x op e, x a name -/
def eOpV (g : D → D → Option D) (i : Nat) (f2 : ME XV) : ME XV := fun q => match peek q i with
  | none => none
  | some _ => bnd f2 (fun y q1 => match y, peek q1 i with
    | .d y, some x => (g x y).map fun z => (.ok (.d z), q1)
    | _, _ => none) q
theorem run_at {a b t u : Type} {rep : RP a t} {rep2 : RP b u} {te : TX t} {f : ME a} {g : a → ME b} {F S H : Hp} {r : List Addr} {σ : L2.St} {q : Stt} {z : Rs b} {Q : u → Hp → Prop} {Q1 : t → Hp → Prop} (h : Tok rep K W te f) (E : Env K F S H r σ q) (hz : bnd f g q = some z) (P : Post rep2 K W F S r σ z Q)
    (k : ∀ x v S1 H1 r1 q1, Ex S S1 → Rle r r1 → Env K F S1 H1 r1 σ q1 → rep S1 r1 x v → g x q1 = some z → Post rep2 K W F S1 r1 σ z Q → Q1 v H1) : te σ H Q1 := by
  rw [bnd_eq] at hz
  cases e : f q with
  | none => rw [e] at hz; cases hz
  | some z1 =>
    obtain ⟨x, q1⟩ := z1
    rw [e] at hz
    cases x with
    | error c =>
      cases hz
      exact h F S H r σ q _ E e _ P
    | ok x => exact h F S H r σ q _ E e _ fun v S1 H1 r1 e1 k1 E1 rp => k x v S1 H1 r1 q1 e1 k1 E1 rp hz (P.mono e1 k1)
theorem tok_opV {r2 : R2} {g : D → D → Option D} {i : Nat} (hr : R2ok K r2 g) (h2 : Tok (RX K) K W t2 f2) : Tok (RX K) K W (tOp r2 (tVar i) t2) (eOpV g i f2) := by
  intro F S H r σ q z E hz Q P
  unfold eOpV at hz
  cases e0 : Den.peek q i with
  | none => rw [e0] at hz; cases hz
  | some d0 =>
    rw [e0] at hz
    obtain ⟨v0, hv0, _⟩ := E.peek e0
    refine ⟨v0, hv0, run_at h2 E hz P fun y w S1 H1 r1 q1 ex1 k1 E1 ry hz P => ?_⟩
    cases y with
    | h n => cases hz
    | d y =>
      cases e1 : Den.peek q1 i with
      | none => simp only [e1] at hz; cases hz
      | some x =>
        simp only [e1] at hz
        cases e2 : g x y with
        | none => rw [e2] at hz; cases hz
        | some d =>
          rw [e2] at hz
          cases hz
          obtain ⟨v1, hv1, rx⟩ := E1.peek e1
          rw [hv0] at hv1
          cases hv1
          exact hr F S1 H1 r1 σ q1 x y d v0 w E1 rx (Rep.toH E1.sub ry) e2 Q fun v' S' H' ex E' rp => P v' S' H' r1 ex (Rle.refl _) E' rp
theorem is_ixV (i : Nat) {x : Str} {p2 : Pos} (hu : X.A.units + 1 < cLine) (h2 : IsE X W e2 t2 f2) (hN : X.N[i]? = some x := by rfl) (hv : Vis X.env.scope x := by first | exact Or.inl rfl | exact Or.inr (Or.inl rfl) | exact Or.inr (Or.inr rfl)) (hd : (x == ("__debug__" : Str)) = false := by decide)
    (hcd : (x == ("__classdict__" : Str)) = false := by decide) (hs : PlainIx e2 := by exact fun _ _ => rfl) : IsE X W (.Subscript (.Name x p2) e2 pos) (tOp (rIxX X.K) (tVar i) t2) (eOpV ixD i f2) := ⟨pe_ix (ix_X hu) (pe_var hN hv hd hcd) h2.pe hs, tok_opV r2_ix h2.ok⟩
/-- e op x, x a name -/
def eOpB (g : D → D → Option D) (f1 : ME XV) (i : Nat) : ME XV := bnd f1 fun x q1 => match x, peek q1 i with
  | .d x, some y => (g x y).map fun z => (.ok (.d z), q1)
  | _, _ => none
theorem tok_opB {r2 : R2} {g : D → D → Option D} {i : Nat} (hr : R2ok K r2 g) (h1 : Tok (RX K) K W t1 f1) : Tok (RX K) K W (tOp r2 t1 (tVar i)) (eOpB g f1 i) := by
  intro F S H r σ q z E hz Q P
  show t1 σ H (fun x H1 => tVar i σ H1 fun y H2 => r2 x y H2 Q)
  refine run_at (rep2 := RX K) h1 E hz P fun y w S1 H1 r1 q1 ex1 k1 E1 ry hz P => ?_
  cases y with
  | h n => cases hz
  | d y =>
    cases e1 : Den.peek q1 i with
    | none => simp only [e1] at hz; cases hz
    | some x =>
      simp only [e1] at hz
      cases e2 : g y x with
      | none => rw [e2] at hz; cases hz
      | some d =>
        rw [e2] at hz
        cases hz
        obtain ⟨v1, hv1, rx⟩ := E1.peek e1
        exact ⟨v1, hv1, hr F S1 H1 r1 σ q1 y x d w v1 E1 (Rep.toH E1.sub ry) rx e2 Q fun v' S' H' ex E' rp => P v' S' H' r1 ex (Rle.refl _) E' rp⟩
/-- f(x), f a built-in, x a name -/
def eCBV (g : List D → Option D) (i : Nat) : ME XV := fun q => (peek q i).bind fun d => (g [d]).map fun z => (.ok (.d z), q)
theorem tok_cbV {rc : List V → Hp → VK → Prop} {g : List D → Option D} {i : Nat} (hr : RCok K rc g) : Tok (RX K) K W (tCB rc (tCons (tVar i) tNil)) (eCBV g i) := by
  intro F S H r σ q z E hz Q P
  unfold eCBV at hz
  cases e0 : Den.peek q i with
  | none => rw [e0] at hz; cases hz
  | some d0 =>
    rw [e0] at hz
    obtain ⟨v0, hv0, rx⟩ := E.peek e0
    have hz' : (g [d0]).map (fun z => ((.ok (.d z), q) : Rs XV)) = some z := hz
    cases e1 : g [d0] with
    | none => rw [e1] at hz'; cases hz'
    | some d =>
      rw [e1] at hz'
      cases hz'
      exact ⟨v0, hv0, hr F S H r σ q [d0] d [v0] E ⟨v0, [], rfl, rx, rfl⟩ e1 Q fun v' S' H' ex E' rp => P v' S' H' r ex (Rle.refl _) E' rp⟩
def lCBV (g : List D → Option (List D)) (i : Nat) : ME (List D) := fun q => (peek q i).bind fun d => (g [d]).map fun z => (.ok z, q)
theorem tokL_cbV {rc : List V → Hp → VK → Prop} {g : List D → Option (List D)} {i : Nat} (hr : RLok K rc g) : TokL K W (tCB rc (tCons (tVar i) tNil)) (lCBV g i) := by
  intro F S H r σ q z E hz Q P
  unfold lCBV at hz
  cases e0 : Den.peek q i with
  | none => rw [e0] at hz; cases hz
  | some d0 =>
    rw [e0] at hz
    obtain ⟨v0, hv0, rx⟩ := E.peek e0
    have hz' : (g [d0]).map (fun z => ((.ok z, q) : Rs (List D))) = some z := hz
    cases e1 : g [d0] with
    | none => rw [e1] at hz'; cases hz'
    | some d =>
      rw [e1] at hz'
      cases hz'
      exact ⟨v0, hv0, hr F S H r σ q [d0] d [v0] E ⟨v0, [], rfl, rx, rfl⟩ e1 Q fun p us hp rp => P p us S _ r (Ex.refl _) (Rle.refl _) (E.newF hp) (E.add hp (.lst us)) rp⟩
theorem is_cbV (i : Nat) {x y : Str} {p p2 : Pos} {id : String} {rc : List V → Hp → VK → Prop} {g : List D → Option D} (hc : CallR X (.builtin id) rc) (hr : RCok X.K rc g) (hg : Gl X x) (hm : X.mg x = none) (hv : bootBuiltins x = some (.builtin id)) (hN : X.N[i]? = some y := by rfl) (hvs : Vis X.env.scope y := by first | exact Or.inl rfl | exact Or.inr (Or.inl rfl) | exact Or.inr (Or.inr rfl)) (hd : (y == ("__debug__" : Str)) = false := by decide)
    (hcd : (y == ("__classdict__" : Str)) = false := by decide)
    (hn : x ≠ "__name__" := by decide) (hdb : (x == ("__debug__" : Str)) = false := by decide) (he0 : starEach [.Name y p2] X.env = (false, eval (.Name y p2) X.env) :: starEach [] X.env := by rfl) (hpl : (backTo pos (starEach [] X.env)).any (·.1) = false := by rfl) :
    IsE X W (.Call (.Name x p) [.Name y p2] [] pos) (tCB rc (tCons (tVar i) tNil)) (eCBV g i) := ⟨pe_callB hc hg hm hv (pa_cons (pe_var hN hvs hd hcd) pa_nil he0) hn hdb he0 hpl, tok_cbV hr⟩
theorem is_ctyV (i : Nat) {x y : Str} {p p2 : Pos} {T : String} {rc : List V → Hp → VK → Prop} {g : List D → Option D} (hc : CallR X (.type T) rc) (hr : RCok X.K rc g) (hg : Gl X x) (hm : X.mg x = none) (hv : bootBuiltins x = some (.type T)) (hN : X.N[i]? = some y := by rfl) (hvs : Vis X.env.scope y := by first | exact Or.inl rfl | exact Or.inr (Or.inl rfl) | exact Or.inr (Or.inr rfl)) (hd : (y == ("__debug__" : Str)) = false := by decide)
    (hcd : (y == ("__classdict__" : Str)) = false := by decide)
    (hn : x ≠ "__name__" := by decide) (hdb : (x == ("__debug__" : Str)) = false := by decide) (he0 : starEach [.Name y p2] X.env = (false, eval (.Name y p2) X.env) :: starEach [] X.env := by rfl) (hpl : (backTo pos (starEach [] X.env)).any (·.1) = false := by rfl) :
    IsE X W (.Call (.Name x p) [.Name y p2] [] pos) (tCB rc (tCons (tVar i) tNil)) (eCBV g i) := ⟨pe_callTy hc hg hm hv (pa_cons (pe_var hN hvs hd hcd) pa_nil he0) hn hdb he0 hpl, tok_cbV hr⟩
/-! ### built-ins -/
def gLen : List D → Option D
  | [.lst ds] => some (.int ds.length)
  | [.tup ds] => some (.int ds.length)
  | [.seq ds] => some (.int ds.length)
  | [.str s] => if s.length ≤ big then some (.int s.length) else none
  | _ => none
def rLenX (K : PySem.W.Frag) : List V → Hp → VK → Prop := fun xs H Q => (∃ p ys, xs = [.ref p] ∧ (SqL K H p ys ∨ SqT K H p ys) ∧ Q (.int ys.length) H) ∨ (∃ z, xs = [.str z] ∧ z.length ≤ sizeLine ∧ Q (.int z.length) H)
theorem call_lenX {X : Cx} : CallR X (.builtin "len") (rLenX X.K) := CallR.or call_len_seq call_len_str
theorem one_rep {F S H : Hp} {d : D} {vs : List V} (h : RepHL K S H [d] vs) : ∃ v, vs = [v] ∧ RepH K S H d v := by
  obtain ⟨v, t, rfl, h1, h2⟩ := h
  have e : t = [] := h2
  subst e
  exact ⟨v, rfl, h1⟩
theorem two_rep {F S H : Hp} {d d2 : D} {vs : List V} (h : RepHL K S H [d, d2] vs) : ∃ v v2, vs = [v, v2] ∧ RepH K S H d v ∧ RepH K S H d2 v2 := by
  obtain ⟨v, t, rfl, h1, h2⟩ := h
  obtain ⟨v2, t, rfl, h3, h4⟩ := h2
  have e : t = [] := h4
  subst e
  exact ⟨v, v2, rfl, h1, h3⟩
theorem rc_len : RCok K (rLenX K) gLen := by
  intro F S H r σ q ds z vs E rp hz Q k
  unfold gLen at hz
  split at hz
  · cases hz
    obtain ⟨v, rfl, a, us, rfl, h1, h2⟩ := one_rep (F := H) rp
    exact .inl ⟨a, us, rfl, .inl (SqL.of h1), by rw [← h2.length]; exact k _ S H (Ex.refl _) E rp_int⟩
  · cases hz
    obtain ⟨v, rfl, h⟩ := one_rep (F := H) rp
    obtain ⟨a, us, rfl, h1, _, h2⟩ := rh_tup E.sub h
    exact .inl ⟨a, us, rfl, .inr h1, by rw [← h2.length]; exact k _ S H (Ex.refl _) E rp_int⟩
  · cases hz
    obtain ⟨v, rfl, h⟩ := one_rep (F := H) rp
    obtain ⟨a, us, rfl, h1, h2⟩ := rh_seq E.sub h
    exact .inl ⟨a, us, rfl, .inl h1, by rw [← h2.length]; exact k _ S H (Ex.refl _) E rp_int⟩
  · obtain ⟨hl, e⟩ := ifs hz
    subst e
    obtain ⟨v, rfl, h⟩ := one_rep (F := H) rp
    exact .inr ⟨_, by rw [rh_str h], big_line hl, k _ S H (Ex.refl _) E rp_int⟩
  · cases hz
def gInt : List D → Option D
  | [.int i] => some (.int i)
  | [.bl b] => some (.int (if b then 1 else 0))
  | _ => none
theorem rc_int : RCok K (fun xs H Q => (∃ i, xs = [.int i] ∧ Q (.int i) H) ∨ ∃ k, xs = [.bl k] ∧ Q (.int (if k then 1 else 0)) H) gInt := by
  intro F S H r σ q ds z vs E rp hz Q k
  unfold gInt at hz
  split at hz
  · cases hz
    obtain ⟨v, rfl, h⟩ := one_rep (F := H) rp
    exact .inl ⟨_, by rw [rh_int h], k _ S H (Ex.refl _) E rp_int⟩
  · cases hz
    obtain ⟨v, rfl, h⟩ := one_rep (F := H) rp
    exact .inr ⟨_, by rw [rh_bl h], k _ S H (Ex.refl _) E rp_int⟩
  · cases hz
def gAbs : List D → Option D
  | [.int i] => some (.int (if i < 0 then -i else i))
  | _ => none
theorem rc_abs : RCok K (fun xs H Q => ∃ i, xs = [.int i] ∧ Q (.int (if i < 0 then -i else i)) H) gAbs := by
  intro F S H r σ q ds z vs E rp hz Q k
  unfold gAbs at hz
  split at hz
  · cases hz
    obtain ⟨v, rfl, h⟩ := one_rep (F := H) rp
    exact ⟨_, by rw [rh_int h], k _ S H (Ex.refl _) E rp_int⟩
  · cases hz
def gMax : List D → Option D
  | [.int i, .int j] => some (.int (if j > i then j else i))
  | _ => none
theorem rc_max : RCok K (fun xs H Q => ∃ i j, xs = [.int i, .int j] ∧ Q (.int (if j > i then j else i)) H) gMax := by
  intro F S H r σ q ds z vs E rp hz Q k
  unfold gMax at hz
  split at hz
  · cases hz
    obtain ⟨v, v2, rfl, h, h2⟩ := two_rep (F := H) rp
    exact ⟨_, _, by rw [rh_int h, rh_int h2], k _ S H (Ex.refl _) E rp_int⟩
  · cases hz
def gMin : List D → Option D
  | [.int i, .int j] => some (.int (if j < i then j else i))
  | _ => none
theorem rc_min : RCok K (fun xs H Q => ∃ i j, xs = [.int i, .int j] ∧ Q (.int (if j < i then j else i)) H) gMin := by
  intro F S H r σ q ds z vs E rp hz Q k
  unfold gMin at hz
  split at hz
  · cases hz
    obtain ⟨v, v2, rfl, h, h2⟩ := two_rep (F := H) rp
    exact ⟨_, _, by rw [rh_int h, rh_int h2], k _ S H (Ex.refl _) E rp_int⟩
  · cases hz
def intsD : List D → Option (List Int)
  | [] => some []
  | .int i :: ds => (intsD ds).map (i :: ·)
  | _ => none
theorem intsD_rep {S : Hp} : ∀ {ds : List D} {ns : List Int} {vs : List V}, intsD ds = some ns → RepL K S ds vs → vs = ns.map V.int
  | [], ns, vs, h, rp => by
    cases h
    rw [len0 rp]
    rfl
  | .int i :: ds, ns, vs, h, rp => by
    have h' : (intsD ds).map (i :: ·) = some ns := h
    cases e : intsD ds with
    | none => rw [e] at h'; cases h'
    | some ms =>
      rw [e] at h'
      cases h'
      rw [RepL] at rp
      obtain ⟨v, t, rfl, h1, h2⟩ := rp
      rw [Rep] at h1
      rw [h1, intsD_rep e h2]
      rfl
theorem intsD_map (ns : List Int) : intsD (ns.map D.int) = some ns := by
  induction ns with
  | nil => rfl
  | cons n ns ih =>
    show (intsD (ns.map D.int)).map (n :: ·) = _
    rw [ih]
    rfl
def gSum : List D → Option D
  | [.lst ds] => (intsD ds).map fun ns => .int ns.sum
  | _ => none
theorem rc_sum : RCok K (rSum K) gSum := by
  intro F S H r σ q ds z vs E rp hz Q k
  unfold gSum at hz
  split at hz
  · rename_i ds
    cases e : intsD ds with
    | none => rw [e] at hz; cases hz
    | some ns =>
      rw [e] at hz
      cases hz
      obtain ⟨v, rfl, a, us, rfl, h1, h2⟩ := one_rep (F := H) rp
      have e2 := intsD_rep e h2
      subst e2
      exact ⟨a, ns, rfl, SqL.of h1, k _ S H (Ex.refl _) E rp_int⟩
  · cases hz
def gTuple : List D → Option D
  | [.lst ds] => some (.tup ds)
  | [.tup ds] => some (.tup ds)
  | _ => none
def rTuple (K : PySem.W.Frag) : List V → Hp → VK → Prop := fun xs H Q => ∃ p ys, xs = [.ref p] ∧ ((SqL K H p ys ∧ ∀ l, H l = none → Q (.ref l) (upd H l (.tup ys))) ∨ (SqT K H p ys ∧ Q (.ref p) H))
theorem rc_tuple : RCok K (rTuple K) gTuple := by
  intro F S H r σ q ds z vs E rp hz Q k
  unfold gTuple at hz
  split at hz
  · cases hz
    obtain ⟨v, rfl, a, us, rfl, h1, h2⟩ := one_rep (F := H) rp
    refine ⟨a, us, rfl, .inl ⟨SqL.of h1, fun p hp => ?_⟩⟩
    obtain ⟨S', ex, E', rp'⟩ := new_tup E hp h2
    exact k _ S' _ ex E' rp'
  · cases hz
    obtain ⟨v, rfl, h⟩ := one_rep (F := H) rp
    obtain ⟨a, us, rfl, h1, h1', h2⟩ := rh_tup E.sub h
    refine ⟨a, us, rfl, .inr ⟨h1, k _ S H (Ex.refl _) E ?_⟩⟩
    rw [Rep]
    exact ⟨a, us, rfl, h1', h2⟩
  · cases hz
def gList : List D → Option (List D)
  | [.lst ds] => some ds
  | [.tup ds] => some ds
  | [.seq ds] => some ds
  | _ => none
def rList (K : PySem.W.Frag) : List V → Hp → VK → Prop := fun xs H Q => ∃ p ys, xs = [.ref p] ∧ (SqL K H p ys ∨ SqT K H p ys) ∧ ∀ l, H l = none → Q (.ref l) (upd H l (.lst ys))
theorem rl_list : RLok K (rList K) gList := by
  intro F S H r σ q ds z vs E rp hz Q k
  unfold gList at hz
  split at hz
  · cases hz
    obtain ⟨v, rfl, a, us, rfl, h1, h2⟩ := one_rep (F := H) rp
    exact ⟨a, us, rfl, .inl (SqL.of h1), fun p hp => k p us hp h2⟩
  · cases hz
    obtain ⟨v, rfl, h⟩ := one_rep (F := H) rp
    obtain ⟨a, us, rfl, h1, h1', h2⟩ := rh_tup E.sub h
    exact ⟨a, us, rfl, .inr h1, fun p hp => k p us hp h2⟩
  · cases hz
    obtain ⟨v, rfl, h⟩ := one_rep (F := H) rp
    obtain ⟨a, us, rfl, h1, h2⟩ := rh_seq E.sub h
    exact ⟨a, us, rfl, .inl h1, fun p hp => k p us hp h2⟩
  · cases hz
/-- list(range(e)) -/
theorem rep_iota {S : Hp} : ∀ (n : Nat) (lo : Int), RepL K S (iota lo n) ((List.range n).map fun i => V.int (lo + (i : Nat)))
  | 0, lo => RepL.nil
  | n + 1, lo => by
    rw [List.range_succ_eq_map, List.map_cons, List.map_map]
    refine RepL.cons (by rw [Rep]; simp) ?_
    have h := rep_iota (S := S) n (lo + 1)
    have e : (List.range n).map (fun i => V.int (lo + 1 + (i : Nat))) = (List.range n).map ((fun i => V.int (lo + (i : Nat))) ∘ Nat.succ) := by
      apply List.map_congr_left
      intro i _
      show V.int _ = V.int _
      congr 1
      simp only [Nat.succ_eq_add_one, Int.natCast_add]
      omega
    rw [← e]
    exact h
def lRng (f : ME XV) : ME (List D) := bnd f fun x => lft (match x with | .d (.int n) => if -(2 ^ 62) ≤ n ∧ n ≤ 100000 then some (iota 0 n.toNat) else none | _ => none)
theorem is_lrng {p1 p2 pos2 : Pos} (h : IsE X W e t f) (hg : Gl X "range") (hm : X.mg "range" = none) (hg2 : Gl X "list") (hm2 : X.mg "list" = none) (hc : X.calm = true := by rfl) (na : starEach [e] X.env = (false, eval e X.env) :: starEach [] X.env := by rfl)
    (na2 : starEach [.Call (.Name "range" p1) [e] [] pos2] X.env = (false, eval (.Call (.Name "range" p1) [e] [] pos2) X.env) :: starEach [] X.env := by rfl) :
    IsL X W (.Call (.Name "list" p2) [.Call (.Name "range" p1) [e] [] pos2] [] pos) (tLstRg (tRg1 t)) (lRng f) := by
  refine ⟨pe_listRg hc hg2 hm2 (prg_1 hg hm h.pe na) na2, ?_⟩
  refine TokL.bind (t2 := fun x σ H Q => ∃ n, x = V.int n ∧ (RgOk 0 n ∧ ∀ q, H q = none → Q (.ref q) (upd H q (.lst (rgV 0 n))))) h.ok fun x v F S H r σ q z E rx hz Q P => ?_
  cases x with
  | h n => cases hz
  | d x =>
    cases x with
    | int n =>
      unfold lft at hz
      split at hz
      · cases hz
      · rename_i y hy
        obtain ⟨hn, e1⟩ := ifs hy
        subst e1
        cases hz
        refine ⟨n, xr_int rx, ⟨by omega, by omega, by omega, by omega, by omega⟩, fun p hp => ?_⟩
        have hrp : RepL X.K S (iota 0 n.toNat) (rgV 0 n) := by
          unfold rgV
          have h1 := rep_iota (K := X.K) (S := S) n.toNat 0
          rw [Int.sub_zero]
          exact h1
        exact P p (rgV 0 n) S _ r (Ex.refl _) (Rle.refl _) (E.newF hp) (E.add hp _) hrp
    | _ => cases hz
end
end Den

namespace Den
open PySem PySem.Spec PyProof.Rows L2
open Evl (Ex)
section
variable {K : PySem.W.Frag} {F F' S S' H H' : Hp} {r r' : List Addr} {σ σ' : L2.St} {q q' : Stt} {i n : Nat} {p a : Addr}
/-- an owned list, out into the frame -/
theorem Env.outL {ds : List D} (E : Env K F S H r σ q) (h : q.sl[i]? = some (.ol ds)) :
    ∃ a vs, σ[i]? = some (some (.ref a)) ∧ H a = some (.lst vs) ∧ F a = none ∧ RepL K S ds vs ∧ i < q.sl.length ∧ Env K (upd F a (.lst vs)) S H r σ { q with sl := q.sl.set i .un } := by
  obtain ⟨a, o, ha, hH, hF, E1, ow, hw, hs⟩ := E.disown h fun ow hk => by
    obtain ⟨a, vs, h1, h2, h3, h4⟩ := hk
    exact ⟨a, _, getD_some h1, h2, h3⟩
  obtain ⟨a', vs, h1, h2, h3, h4⟩ := hs
  cases h1
  rw [hH] at h3
  cases h3
  exact ⟨a, vs, ha, hH, hF, h4, (List.getElem?_eq_some_iff.mp h).1, E1⟩
/-- .. and in again, changed -/
theorem Env.inL {ds : List D} {vs vs' : List V} {s0 : Sl} (E : Env K (upd F a (.lst vs)) S H r σ { q with sl := q.sl.set i s0 }) (ha : σ[i]? = some (some (.ref a))) (hF : F a = none) (hi : i < q.sl.length) (rp : RepL K S ds vs') :
    Env K F S (upd H a (.lst vs')) r σ { q with sl := q.sl.set i (.ol ds) } := by
  have E1 := (E.write (.lst vs')).own hF i (.ol ds) (fun ow hw hH => ⟨a, vs', rfl, hw, hH, rp⟩) (by simpa using hi)
  rw [set_self' ha] at E1
  have e : ({ sl := (q.sl.set i s0).set i (.ol ds), w := q.w } : Stt) = { q with sl := q.sl.set i (.ol ds) } := by rw [List.set_set]
  rw [← e]
  exact E1
theorem Env.outK {ks : List Key} {ds : List D} (E : Env K F S H r σ q) (h : q.sl[i]? = some (.od ks ds)) :
    ∃ a vs, σ[i]? = some (some (.ref a)) ∧ H a = some (.dK (ks.zip vs)) ∧ F a = none ∧ ks.length = ds.length ∧ RepL K S ds vs ∧ i < q.sl.length ∧ Env K (upd F a (.dK (ks.zip vs))) S H r σ { q with sl := q.sl.set i .un } := by
  obtain ⟨a, o, ha, hH, hF, E1, ow, hw, hs⟩ := E.disown h fun ow hk => by
    obtain ⟨a, vs, h1, h2, h3, h4⟩ := hk
    exact ⟨a, _, getD_some h1, h2, h3⟩
  obtain ⟨a', vs, h1, h2, h3, h5, h4⟩ := hs
  cases h1
  rw [hH] at h3
  cases h3
  exact ⟨a, vs, ha, hH, hF, h5, h4, (List.getElem?_eq_some_iff.mp h).1, E1⟩
theorem Env.inK {ks : List Key} {ds : List D} {o : HO} {vs' : List V} {s0 : Sl} (E : Env K (upd F a o) S H r σ { q with sl := q.sl.set i s0 }) (ha : σ[i]? = some (some (.ref a))) (hF : F a = none) (hi : i < q.sl.length) (hl : ks.length = ds.length) (rp : RepL K S ds vs') :
    Env K F S (upd H a (.dK (ks.zip vs'))) r σ { q with sl := q.sl.set i (.od ks ds) } := by
  have E1 := (E.write (.dK (ks.zip vs'))).own hF i (.od ks ds) (fun ow hw hH => ⟨a, vs', rfl, hw, hH, hl, rp⟩) (by simpa using hi)
  rw [set_self' ha] at E1
  have e : ({ sl := (q.sl.set i s0).set i (.od ks ds), w := q.w } : Stt) = { q with sl := q.sl.set i (.od ks ds) } := by rw [List.set_set]
  rw [← e]
  exact E1
end
/-! ### a dict's stores -/
def putKs {k : Type} [DecidableEq k] : List k → k → List k
  | [], b => [b]
  | a :: ks, b => if a = b then a :: ks else a :: putKs ks b
def putDs {k : Type} [DecidableEq k] : List k → List D → k → D → List D
  | a :: ks, d :: ds, b, x => if a = b then x :: ds else d :: putDs ks ds b x
  | _, _, _, x => [x]
theorem putKs_len {k : Type} [DecidableEq k] : ∀ (ks : List k) (ds : List D) (b : k) (x : D), ks.length = ds.length → (putKs ks b).length = (putDs ks ds b x).length
  | [], [], b, x, _ => rfl
  | [], _ :: _, _, _, h => by simp at h
  | _ :: _, [], _, _, h => by simp at h
  | a :: ks, d :: ds, b, x, h => by
    unfold putKs putDs
    by_cases e : a = b
    · rw [if_pos e, if_pos e]
      simpa using h
    · rw [if_neg e, if_neg e, List.length_cons, List.length_cons, putKs_len ks ds b x (by simpa using h)]
theorem putK_cons_ne {k : Type} [DecidableEq k] {p : k × V} {l : List (k × V)} {b : k} {v : V} (h : ¬ p.1 = b) : putK (p :: l) b v = p :: putK l b v := by
  unfold putK
  rw [List.any_cons, decide_eq_false h, Bool.false_or]
  by_cases e : (l.any fun kv => decide (kv.1 = b)) = true
  · rw [if_pos e, if_pos e, List.map_cons, if_neg h]
  · rw [if_neg e, if_neg e]
    rfl
/-- a dict's keys stand once -/
theorem putK_cons_eq {k : Type} [DecidableEq k] {a : k} {u v : V} {l : List (k × V)} {b : k} (h : a = b) (hn : b ∉ l.map (·.1)) : putK ((a, u) :: l) b v = (a, v) :: l := by
  subst h
  unfold putK
  rw [List.any_cons, decide_eq_true rfl, Bool.true_or, if_pos rfl, List.map_cons, if_pos rfl]
  congr 1
  have : ∀ kv ∈ l, (if kv.1 = a then (kv.1, v) else kv) = kv := fun kv hk => by
    rw [if_neg]
    intro z
    exact hn (List.mem_map.mpr ⟨kv, hk, z⟩)
  exact (List.map_congr_left this).trans (List.map_id l)
theorem put_rep {k : Type} [DecidableEq k] {K : PySem.W.Frag} {S : Hp} {b : k} {x : D} {v : V} (hx : Rep K S x v) : ∀ {ks : List k} {ds : List D} {vs : List V}, RepL K S ds vs → ks.length = ds.length → ks.Nodup →
    ∃ vs', RepL K S (putDs ks ds b x) vs' ∧ putK (ks.zip vs) b v = (putKs ks b).zip vs'
  | [], [], vs, h, _, _ => by
    rw [len0 h]
    exact ⟨[v], RepL.one hx, rfl⟩
  | [], _ :: _, _, _, h, _ => by simp at h
  | _ :: _, [], _, _, h, _ => by simp at h
  | a :: ks, d :: ds, vs, h, hl, hn => by
    rw [RepL] at h
    obtain ⟨u, t, rfl, h1, h2⟩ := h
    rw [List.zip_cons_cons]
    rw [List.nodup_cons] at hn
    unfold putKs putDs
    by_cases e : a = b
    · rw [if_pos e, if_pos e]
      refine ⟨v :: t, RepL.cons hx h2, ?_⟩
      rw [List.zip_cons_cons]
      refine putK_cons_eq e fun hm => hn.1 ?_
      obtain ⟨kv, h3, h4⟩ := List.mem_map.mp hm
      rw [e, ← h4]
      exact (List.of_mem_zip h3).1
    · rw [if_neg e, if_neg e]
      obtain ⟨vs', h3, h4⟩ := put_rep hx h2 (by simpa using hl) hn.2 (ks := ks)
      refine ⟨u :: vs', RepL.cons h1 h3, ?_⟩
      rw [List.zip_cons_cons, putK_cons_ne (p := (a, u)) e, h4]
section
variable {X : Cx} {W : WX} {e e1 e2 e3 tg : Expr} {es : List Expr} {t t1 t2 t3 : TE} {ta : TA} {f f1 f2 f3 : ME XV} {fa : ME (List XV)} {pos p : Pos} {K : PySem.W.Frag} {fl : ME (List D)}
theorem sof_at {a t : Type} {rep : RP a t} {te : TX t} {f : ME a} {k : a → Stt → Option Fl} {F S H : Hp} {r : List Addr} {σ : L2.St} {q : Stt} {z : Fl} {d : Ends} {Q1 : t → Hp → Prop} (h : Tok rep K W te f) (E : Env K F S H r σ q) (hz : sOf f k q = some z) (P : PostS K W F S r z d)
    (kk : ∀ x v S1 H1 r1 q1, Ex S S1 → Rle r r1 → Env K F S1 H1 r1 σ q1 → rep S1 r1 x v → k x q1 = some z → PostS K W F S1 r1 z d → Q1 v H1) : te σ H Q1 := by
  unfold sOf at hz
  cases e : f q with
  | none => rw [e] at hz; cases hz
  | some z1 =>
    obtain ⟨x, q1⟩ := z1
    rw [e] at hz
    cases x with
    | error c =>
      cases hz
      exact h F S H r σ q _ E e _ fun S1 H1 r1 e1 k1 E1 => P σ S1 H1 r1 e1 k1 E1
    | ok x => exact h F S H r σ q _ E e _ fun v S1 H1 r1 e1 k1 E1 rp => kk x v S1 H1 r1 q1 e1 k1 E1 rp hz (P.mono e1 k1)
def putStep (i : Nat) : XV → XV → Stt → Option Fl
  | .d v, .d k, q => match q.sl[i]? with
    | some (.od ks ds) => (keyD k).bind fun kk => if ks.length < big ∧ ks.Nodup then some (.nx { q with sl := q.sl.set i (.od (putKs ks kk) (putDs ks ds kk v)) }) else none
    | _ => none
  | _, _, _ => none
/-- x[k] = v on a dict of one's own (its keys must stand once) -/
def hasK (i : Nat) (q : Stt) : Bool := match q.sl[i]? with
  | some (.od _ _) => true
  | _ => false
def sPutV (i : Nat) (fk fv : ME XV) : MS := sOf fv fun v q => if hasK i q then sOf fk (fun k => putStep i v k) q else none
theorem is_putV (i : Nat) {x : Str} {p2 pos' : Pos} (hu : X.A.units + 1 < cLine) (hk : IsE X W e1 t1 f1) (hv : IsE X W e2 t2 f2) (hN : X.N[i]? = some x := by rfl) (hvs : Vis X.env.scope x := by first | exact Or.inl rfl | exact Or.inr (Or.inl rfl) | exact Or.inr (Or.inr rfl)) (hd : (x == ("__debug__" : Str)) = false := by decide)
    (hcd : (x == ("__classdict__" : Str)) = false := by decide) (hs : swapsWith e2 (some (.Subscript (.Name x p2) e1 pos')) pos.line X.env = pure false := by rfl) :
    IsS X W (.Assign [.Subscript (.Name x p2) e1 pos'] e2 pos) (sDPut (tVar i) t1 t2) (sPutV i f1 f2) := by
  refine ⟨ps_dput hu (pe_var hN hvs hd hcd) hk.pe hv.pe hs, ?_⟩
  intro F S H r σ q z E hz d P
  refine sof_at hv.ok E hz P fun xv v S1 H1 r1 q1 ex1 k1 E1 rv hz P => ?_
  have hz' : (if hasK i q1 then sOf f1 (fun k => putStep i xv k) q1 else none) = some z := hz
  by_cases hk1 : hasK i q1 = true
  · rw [if_pos hk1] at hz'
    unfold hasK at hk1
    cases es : q1.sl[i]? with
    | none => rw [es] at hk1; cases hk1
    | some s =>
      rw [es] at hk1
      cases s with
      | od ks0 ds0 =>
        obtain ⟨a0, vs0, ha0, _⟩ := E1.outK es
        refine ⟨.ref a0, ha0, ?_⟩
        refine sof_at hk.ok E1 hz' P fun xk y S2 H2 r2 q2 ex2 k2 E2 rk hz P => ?_
        cases xv with
        | h n => cases hz
        | d vd =>
          cases xk with
          | h n => cases hz
          | d kd =>
            unfold putStep at hz
            cases es1 : q2.sl[i]? with
            | none => simp only [es1] at hz; cases hz
            | some s1 =>
              cases s1 with
              | od ks ds =>
                simp only [es1] at hz
                cases ek : keyD kd with
                | none => rw [ek] at hz; cases hz
                | some kk =>
                  rw [ek] at hz
                  obtain ⟨hc, ez⟩ := ifs (show (if ks.length < big ∧ ks.Nodup then some (Fl.nx { q2 with sl := q2.sl.set i (.od (putKs ks kk) (putDs ks ds kk vd)) }) else none) = some z from hz)
                  subst ez
                  obtain ⟨a, vs, ha, hH, hF, hl, rp, hi, E3⟩ := E2.outK es1
                  rw [ha0] at ha
                  cases ha
                  have rv1 : Rep X.K S2 vd v := Rep.mono ex2 _ _ rv
                  obtain ⟨vs', rp', ez⟩ := put_rep (b := kk) rv1 rp hl hc.2
                  refine ⟨a0, upd H2 a0 (.dK ((putKs ks kk).zip vs')), rfl, ?_, ?_⟩
                  · rw [← ez, keyD_of (H := H2) ek rk]
                    exact DPut.k hH (by rw [List.length_zip, ← rp.length, ← hl, Nat.min_self]; exact Nat.lt_of_lt_of_le hc.1 (by decide))
                  · exact P σ S2 _ r2 (Ex.refl _) (Rle.refl _) (E3.inK ha0 hF hi (putKs_len ks ds kk vd hl) rp')
              | _ => simp only [es1] at hz; cases hz
      | _ => cases hk1
  · rw [if_neg hk1] at hz'
    cases hz'
/-- x.get(k, e), x a name -/
def eGetV (i : Nat) (fk fx : ME XV) : ME XV := fun q => match peek q i with
  | some (.dic _ _) => bnd fk (fun k => bnd fx fun x q1 => match k, x, peek q1 i with
    | .d k, .d x, some c => (dgetD c k).map fun o => (.ok (.d (o.getD x)), q1)
    | _, _, _ => none) q
  | _ => none
theorem is_getV (i : Nat) {x : Str} {p2 apos : Pos} (hu : X.A.units + 1 < cLine) (hk : IsE X W e1 t1 f1) (hx : IsE X W e2 t2 f2) (m : M2 X (.Name x p2) "get" apos e1 e2 pos) (hN : X.N[i]? = some x := by rfl) (hvs : Vis X.env.scope x := by first | exact Or.inl rfl | exact Or.inr (Or.inl rfl) | exact Or.inr (Or.inr rfl)) (hd : (x == ("__debug__" : Str)) = false := by decide)
    (hcd : (x == ("__classdict__" : Str)) = false := by decide) :
    IsE X W (.Call (.Attribute (.Name x p2) "get" apos) [e1, e2] [] pos) (tDGet2 (tVar i) t1 t2) (eGetV i f1 f2) := by
  refine ⟨pe_dget2 hu (pe_var hN hvs hd hcd) hk.pe hx.pe m, fun F S H r σ q z E hz Q P => ?_⟩
  unfold eGetV at hz
  cases e0 : Den.peek q i with
  | none => rw [e0] at hz; cases hz
  | some d0 =>
    rw [e0] at hz
    cases d0 with
    | dic ks0 ds0 =>
      obtain ⟨v0, hv0, a0, vs0, ev, h1, h2, h3⟩ := E.peek e0
      subst ev
      refine ⟨.ref a0, hv0, a0, rfl, .inl ⟨_, .inl h1⟩, ?_⟩
      refine run_at (rep2 := RX X.K) hk.ok E hz P fun y w S1 H1 r1 q1 ex1 k1 E1 ry hz P => ?_
      refine run_at (rep2 := RX X.K) hx.ok E1 hz P fun xx u S2 H2 r2 q2 ex2 k2 E2 rx hz P => ?_
      cases y with
      | h n => cases hz
      | d y =>
        cases xx with
        | h n => cases hz
        | d xx =>
          cases e1 : Den.peek q2 i with
          | none => simp only [e1] at hz; cases hz
          | some c =>
            simp only [e1] at hz
            cases e3 : dgetD c y with
            | none => rw [e3] at hz; cases hz
            | some o =>
              rw [e3] at hz
              cases hz
              obtain ⟨v1, hv1, rc⟩ := E2.peek e1
              rw [hv0] at hv1
              cases hv1
              obtain ⟨a, ov, ea, g, _, orp⟩ := dget_of E2.sub e3 rc (Rep.toH E2.sub (Rep.mono ex2 _ _ ry))
              cases ea
              refine ⟨ov, g, ?_⟩
              cases o with
              | some dv =>
                cases ov with
                | none => exact False.elim orp
                | some v' => exact P v' S2 H2 r2 (Ex.refl _) (Rle.refl _) E2 orp
              | none =>
                cases ov with
                | some v' => exact False.elim orp
                | none => exact P u S2 H2 r2 (Ex.refl _) (Rle.refl _) E2 rx
    | _ => cases hz
/-! ### methods of lists of one's own -/
def RMok (K : PySem.W.Frag) (rm : V → List V → Hp → VK → Prop) (g : List D → D → Option (D × List D)) : Prop :=
  ∀ S H a vs ds d v x ds', Ex S H → H a = some (.lst vs) → S a = none → RepL K S ds vs → Rep K S d v → g ds d = some (x, ds') → ∀ Q : VK, (∀ u vs', Rep K S x u → RepL K S ds' vs' → Q u (upd H a (.lst vs'))) → rm (.ref a) [v] H Q
def eM1V (g : List D → D → Option (D × List D)) (i : Nat) (f1 : ME XV) : ME XV := fun q => match q.sl[i]? with
  | some (.ol _) => bnd f1 (fun x q1 => match x, q1.sl[i]? with
    | .d x, some (.ol ds) => (g ds x).map fun y => (.ok (.d y.1), { q1 with sl := q1.sl.set i (.ol y.2) })
    | _, _ => none) q
  | _ => none
theorem tok_m1 {rm : V → List V → Hp → VK → Prop} {g : List D → D → Option (D × List D)} {i : Nat} (hr : RMok K rm g) (h1 : Tok (RX K) K W t1 f1) : Tok (RX K) K W (tBM K "list" rm (tVar i) (tCons t1 tNil)) (eM1V g i f1) := by
  intro F S H r σ q z E hz Q P
  unfold eM1V at hz
  cases es : q.sl[i]? with
  | none => rw [es] at hz; cases hz
  | some s =>
    rw [es] at hz
    cases s with
    | ol ds0 =>
      obtain ⟨a0, vs0, ha0, hH0, _⟩ := E.outL es
      refine ⟨.ref a0, ha0, .inl ⟨rfl, _, SqL.of hH0⟩, ?_⟩
      show t1 σ H (fun x H1 => tNil σ H1 fun xs H2 => rm (.ref a0) (x :: xs) H2 Q)
      refine run_at (rep2 := RX K) h1 E hz P fun y w S1 H1 r1 q1 ex1 k1 E1 ry hz P => ?_
      cases y with
      | h n => cases hz
      | d y =>
        cases es1 : q1.sl[i]? with
        | none => simp only [es1] at hz; cases hz
        | some s1 =>
          cases s1 with
          | ol ds =>
            simp only [es1] at hz
            cases eg : g ds y with
            | none => rw [eg] at hz; cases hz
            | some yy =>
              obtain ⟨x, ds'⟩ := yy
              rw [eg] at hz
              cases hz
              obtain ⟨a, vs, ha, hH, hF, rp, hi, E2⟩ := E1.outL es1
              rw [ha0] at ha
              cases ha
              have hS : S1 a0 = none := by
                obtain ⟨ow, e2⟩ := E2
                exact (e2.fr a0 _ upd_same).2
              exact hr S1 H1 a0 vs ds y w x ds' E1.sub hH hS rp ry eg _ fun u vs' ru rp' => P u S1 _ r1 (Ex.refl _) (Rle.refl _) (E2.inL ha0 hF hi rp') ru
          | _ => simp only [es1] at hz; cases hz
    | _ => cases hz
def gApp : List D → D → Option (D × List D) := fun ds d => if ds.length < big then some (.non, ds ++ [d]) else none
theorem rm_app : RMok K rAppend gApp := by
  intro S H a vs ds d v x ds' E hH hS rp rd hg Q k
  obtain ⟨hl, e⟩ := ifs hg
  cases e
  exact ⟨a, vs, v, rfl, rfl, hH, by rw [← rp.length]; exact Nat.lt_of_lt_of_le hl (by decide), k _ _ rp_non (rp.append (RepL.one rd))⟩
def gExt : List D → D → Option (D × List D)
  | ds, .lst es => if ds.length + es.length ≤ big then some (.non, ds ++ es) else none
  | _, _ => none
theorem rm_ext : RMok K rExtend gExt := by
  intro S H a vs ds d v x ds' E hH hS rp rd hg Q k
  unfold gExt at hg
  split at hg
  · obtain ⟨hl, e⟩ := ifs hg
    cases e
    rw [Rep] at rd
    obtain ⟨b, us, rfl, h1, h2⟩ := rd
    exact ⟨a, b, vs, us, rfl, rfl, hH, E _ _ h1, by rw [← rp.length, ← h2.length]; exact big_line hl, k _ _ rp_non (rp.append h2)⟩
  · cases hg
def gPopAt : List D → D → Option (D × List D)
  | ds, .int i => if 0 ≤ i ∧ i < ds.length ∧ ds.length ≤ big then (ds[i.toNat]?).map fun d => (d, ds.eraseIdx i.toNat) else none
  | _, _ => none
theorem rm_popAt : RMok K rPopAt gPopAt := by
  intro S H a vs ds d v x ds' E hH hS rp rd hg Q k
  unfold gPopAt at hg
  split at hg
  · rename_i i
    by_cases c : 0 ≤ i ∧ i < ds.length ∧ ds.length ≤ big
    · rw [if_pos c] at hg
      cases e : ds[i.toNat]? with
      | none => rw [e] at hg; cases hg
      | some dd =>
        rw [e] at hg
        cases hg
        obtain ⟨u, h1, h2⟩ := rp.get e
        rw [Rep] at rd
        have hb : ds.length ≤ 100000 := c.2.2
        refine ⟨a, vs, i, i.toNat, u, rfl, by rw [rd], hH, by omega, by omega, ?_, h1, k _ _ h2 (rp.eraseIdx _)⟩
        rw [← rp.length]
        exact seqIndex_of c.1 c.2.1
    · rw [if_neg c] at hg
      cases hg
  · cases hg
theorem is_appV (i : Nat) {x : Str} {p2 apos : Pos} (h1 : IsE X W e1 t1 f1) (hN : X.N[i]? = some x := by rfl) (hvs : Vis X.env.scope x := by first | exact Or.inl rfl | exact Or.inr (Or.inl rfl) | exact Or.inr (Or.inr rfl)) (hd : (x == ("__debug__" : Str)) = false := by decide)
    (hcd : (x == ("__classdict__" : Str)) = false := by decide) (hbase : attributeBase (.Name x p2) "append" X.env (eval (.Name x p2) X.env) = eval (.Name x p2) X.env := by rfl)
    (hfew : ((backTo pos (starEach (e1 :: []) X.env)).all (fun x => !x.1) && (backToKw pos (keywordEach [] X.env)).all (fun x => x.1.isSome)
      && decide ((e1 :: []).length + ([] : List Keyword).length + (if ([] : List Keyword).isEmpty then 0 else 1) < 30)) = true := by rfl)
    (hline : (apos.endLine == pos.line) = true := by rfl) (hs : starEach (e1 :: []) X.env = (false, eval e1 X.env) :: starEach [] X.env := by rfl) (hplain : (backTo pos (starEach [] X.env)).any (·.1) = false := by rfl) :
    IsE X W (.Call (.Attribute (.Name x p2) "append" apos) [e1] [] pos) (tBM X.K "list" rAppend (tVar i) (tCons t1 tNil)) (eM1V gApp i f1) :=
  ⟨pe_bm PySem.F.plainAttrs_list PySem.F.slot_list_append PySem.F.type_list_append mt_append (pe_var hN hvs hd hcd) (pa_cons h1.pe pa_nil hs) hbase hfew hline hs hplain, tok_m1 rm_app h1.ok⟩
theorem is_extV (i : Nat) {x : Str} {p2 apos : Pos} (h1 : IsE X W e1 t1 f1) (hN : X.N[i]? = some x := by rfl) (hvs : Vis X.env.scope x := by first | exact Or.inl rfl | exact Or.inr (Or.inl rfl) | exact Or.inr (Or.inr rfl)) (hd : (x == ("__debug__" : Str)) = false := by decide)
    (hcd : (x == ("__classdict__" : Str)) = false := by decide) (hbase : attributeBase (.Name x p2) "extend" X.env (eval (.Name x p2) X.env) = eval (.Name x p2) X.env := by rfl)
    (hfew : ((backTo pos (starEach (e1 :: []) X.env)).all (fun x => !x.1) && (backToKw pos (keywordEach [] X.env)).all (fun x => x.1.isSome)
      && decide ((e1 :: []).length + ([] : List Keyword).length + (if ([] : List Keyword).isEmpty then 0 else 1) < 30)) = true := by rfl)
    (hline : (apos.endLine == pos.line) = true := by rfl) (hs : starEach (e1 :: []) X.env = (false, eval e1 X.env) :: starEach [] X.env := by rfl) (hplain : (backTo pos (starEach [] X.env)).any (·.1) = false := by rfl) :
    IsE X W (.Call (.Attribute (.Name x p2) "extend" apos) [e1] [] pos) (tBM X.K "list" rExtend (tVar i) (tCons t1 tNil)) (eM1V gExt i f1) :=
  ⟨pe_bm PySem.F.plainAttrs_list PySem.F.slot_list_extend PySem.F.type_list_extend mt_extend (pe_var hN hvs hd hcd) (pa_cons h1.pe pa_nil hs) hbase hfew hline hs hplain, tok_m1 rm_ext h1.ok⟩
theorem is_popV (i : Nat) {x : Str} {p2 apos : Pos} (h1 : IsE X W e1 t1 f1) (hN : X.N[i]? = some x := by rfl) (hvs : Vis X.env.scope x := by first | exact Or.inl rfl | exact Or.inr (Or.inl rfl) | exact Or.inr (Or.inr rfl)) (hd : (x == ("__debug__" : Str)) = false := by decide)
    (hcd : (x == ("__classdict__" : Str)) = false := by decide) (hbase : attributeBase (.Name x p2) "pop" X.env (eval (.Name x p2) X.env) = eval (.Name x p2) X.env := by rfl)
    (hfew : ((backTo pos (starEach (e1 :: []) X.env)).all (fun x => !x.1) && (backToKw pos (keywordEach [] X.env)).all (fun x => x.1.isSome)
      && decide ((e1 :: []).length + ([] : List Keyword).length + (if ([] : List Keyword).isEmpty then 0 else 1) < 30)) = true := by rfl)
    (hline : (apos.endLine == pos.line) = true := by rfl) (hs : starEach (e1 :: []) X.env = (false, eval e1 X.env) :: starEach [] X.env := by rfl) (hplain : (backTo pos (starEach [] X.env)).any (·.1) = false := by rfl) :
    IsE X W (.Call (.Attribute (.Name x p2) "pop" apos) [e1] [] pos) (tBM X.K "list" rPopAt (tVar i) (tCons t1 tNil)) (eM1V gPopAt i f1) :=
  ⟨pe_bm PySem.F.plainAttrs_list PySem.F.slot_list_pop PySem.F.type_list_pop mt_popAt (pe_var hN hvs hd hcd) (pa_cons h1.pe pa_nil hs) hbase hfew hline hs hplain, tok_m1 rm_popAt h1.ok⟩
/-! ### a list that the world holds -/
def eNewW (fa : ME (List XV)) : ME XV := bnd fa fun xs q => if xs.length ≤ big then some (.ok (.h q.w.length), { q with w := q.w ++ [.lst xs] }) else none
theorem Env.newW {F S H : Hp} {r : List Addr} {σ : L2.St} {q : Stt} {p : Addr} {xs : List XV} {vs : List V} (E : Env K F S H r σ q) (hp : H p = none) (rx : XRepL K S r xs vs) :
    Env K F S (upd H p (.lst vs)) (r ++ [p]) σ { q with w := q.w ++ [.lst xs] } ∧ Rle r (r ++ [p]) ∧ (r ++ [p])[q.w.length]? = some p := by
  have hF := E.newF hp
  have hS := E.newS hp
  have rle : Rle r (r ++ [p]) := fun n a h => by
    rw [List.getElem?_append_left (List.getElem?_eq_some_iff.mp h).1]
    exact h
  obtain ⟨ow, e⟩ := E
  have hat : (r ++ [p])[q.w.length]? = some p := by
    rw [← e.rlen]
    simp
  have ne : ∀ a x, ow a = some x → a ≠ p := fun a x k z => by
    obtain ⟨_, _, o, k3⟩ := e.ows a x k
    rw [z, hp] at k3
    cases k3
  have keep : ∀ a x, ow a = some x → (fun b => if b = p then some (Sum.inr q.w.length) else ow b) a = some x := fun a x k => by
    show (if a = p then _ else ow a) = _
    rw [if_neg (ne a x k)]
    exact k
  refine ⟨⟨fun b => if b = p then some (.inr q.w.length) else ow b, fun a o k => ?_, fun a o k => ?_, fun a x k => ?_, e.len, fun i s k => ?_, by simp [e.rlen], fun n o k => ?_⟩, rle, hat⟩
  · rw [upd_ne (ne_of_none k hS)]
    exact e.sub a o k
  · rw [upd_ne (ne_of_none k hF)]
    exact e.fr a o k
  · have k' : (if a = p then some (Sum.inr q.w.length) else ow a) = some x := k
    by_cases z : a = p
    · subst z
      exact ⟨hS, hF, _, upd_same⟩
    · rw [if_neg z] at k'
      obtain ⟨k1, k2, k3⟩ := e.ows a x k'
      exact ⟨k1, k2, by rw [upd_ne z]; exact k3⟩
  · exact (e.slot i s k).mono (Ex.refl _) rle fun a m => ⟨keep a _ m, upd_ne (ne a _ m)⟩
  · have k' : (q.w ++ [.lst xs])[n]? = some o := k
    by_cases hn : n < q.w.length
    · rw [List.getElem?_append_left hn] at k'
      exact (e.wob n o k').mono (Ex.refl _) rle fun a m => ⟨keep a _ m, upd_ne (ne a _ m)⟩
    · rw [List.getElem?_append_right (by omega)] at k'
      have en : n = q.w.length := by
        have h1 := (List.getElem?_eq_some_iff.mp k').1
        simp at h1
        omega
      subst en
      rw [Nat.sub_self] at k'
      have eo : WO.lst xs = o := by simpa using k'
      subst eo
      exact ⟨p, vs, hat, by show (if p = p then _ else _) = _; rw [if_pos rfl], upd_same, rx.mono (Ex.refl _) rle⟩
theorem is_lstW (h : IsA X W es ta fa) : IsE X W (.List es pos) (tLst ta) (eNewW fa) := by
  refine ⟨pe_lst h.pa, ?_⟩
  refine Tok.bind (t2 := fun (xs : List V) (σ : L2.St) (H : Hp) (Q : VK) => xs.length ≤ sizeLine ∧ ∀ p, H p = none → Q (V.ref p) (upd H p (.lst xs))) h.ok fun x v F S H r σ q z E rx hz Q P => ?_
  obtain ⟨hl, ez⟩ := ifs (show (if x.length ≤ big then some ((.ok (.h q.w.length), { q with w := q.w ++ [.lst x] }) : Rs XV) else none) = some z from hz)
  subst ez
  refine ⟨by rw [← rx.length]; exact big_line hl, fun p hp => ?_⟩
  obtain ⟨E2, k, hat⟩ := E.newW hp rx
  exact P (.ref p) S _ _ (Ex.refl _) k E2 ⟨p, hat, rfl⟩
/-- x[e1] = e2, x a name that holds a list of the world -/
def setStep : XV → XV → XV → Stt → Option Fl
  | .h n, .d (.int j), v, q => match q.w[n]? with
    | some (.lst xs) => (ixN xs.length j).map fun m => .nx { q with w := q.w.set n (.lst (xs.set m v)) }
    | _ => none
  | _, _, _, _ => none
def sSetW (i : Nat) (fk fv : ME XV) : MS := sOf fv fun v => sOf (eVar i) fun o => sOf fk fun k => setStep o k v
theorem Env.setW {F S H : Hp} {r : List Addr} {σ : L2.St} {q : Stt} {n : Nat} {xs xs' : List XV} {vs' : List V} (E : Env K F S H r σ q) (hw : q.w[n]? = some (.lst xs)) (rx : XRepL K S r xs' vs') {a : Addr} (ha : r[n]? = some a) :
    Env K F S (upd H a (.lst vs')) r σ { q with w := q.w.set n (.lst xs') } := by
  obtain ⟨ow, e⟩ := E
  obtain ⟨a', vs, g1, g2, g3, g4⟩ := e.wob n _ hw
  rw [ha] at g1
  cases g1
  obtain ⟨hS, hF, _⟩ := e.ows a _ g2
  have ne : ∀ b x, ow b = some x → x ≠ .inr n → b ≠ a := fun b x k z y => by
    rw [y, g2] at k
    exact z (Option.some.inj k).symm
  refine ⟨ow, fun b o k => ?_, fun b o k => ?_, fun b x k => ?_, e.len, fun i s k => ?_, by simp [e.rlen], fun m o k => ?_⟩
  · rw [upd_ne (ne_of_none k hS)]
    exact e.sub b o k
  · rw [upd_ne (ne_of_none k hF)]
    exact e.fr b o k
  · obtain ⟨k1, k2, k3⟩ := e.ows b x k
    refine ⟨k1, k2, ?_⟩
    by_cases z : b = a
    · subst z
      exact ⟨_, upd_same⟩
    · rw [upd_ne z]
      exact k3
  · exact (e.slot i s k).mono (Ex.refl _) (Rle.refl _) fun b m => ⟨m, upd_ne (ne b _ m (fun z => nomatch z))⟩
  · have k' : (q.w.set n (.lst xs'))[m]? = some o := k
    by_cases hm : m = n
    · subst hm
      have hl := (List.getElem?_eq_some_iff.mp hw).1
      rw [List.getElem?_set_self hl] at k'
      cases k'
      exact ⟨a, vs', ha, g2, upd_same, rx⟩
    · rw [List.getElem?_set_ne (Ne.symm hm)] at k'
      exact (e.wob m o k').mono (Ex.refl _) (Rle.refl _) fun b mm => ⟨mm, upd_ne (ne b _ mm (fun z => by cases z; exact hm rfl))⟩
theorem is_setW (i : Nat) {x : Str} {p2 pos' : Pos} (hk : IsE X W e1 t1 f1) (hv : IsE X W e2 t2 f2) (hN : X.N[i]? = some x := by rfl) (hvs : Vis X.env.scope x := by first | exact Or.inl rfl | exact Or.inr (Or.inl rfl) | exact Or.inr (Or.inr rfl)) (hd : (x == ("__debug__" : Str)) = false := by decide)
    (hcd : (x == ("__classdict__" : Str)) = false := by decide) (ha : ∀ v, assign (.Subscript (.Name x p2) e1 pos') X.env v = (do
      let ov ← holding [v] (eval (.Name x p2) X.env)
      let iv ← holding [v, ov] (eval e1 X.env)
      standAt pos'
      holding [v, ov, iv] (setItem ov iv v)
      release [v, ov, iv] []) := by intro _; rfl) (hs : swapsWithSole [.Subscript (.Name x p2) e1 pos'] e2 pos.line X.env = pure false := by rfl) (hw : swappedStores [.Subscript (.Name x p2) e1 pos'] e2 X.env = pure none := by rfl)
    (h1 : (assignEach [.Subscript (.Name x p2) e1 pos'] X.env).map (·.2) = [assign (.Subscript (.Name x p2) e1 pos') X.env] := by rfl) :
    IsS X W (.Assign [.Subscript (.Name x p2) e1 pos'] e2 pos) (tAsg t2 (L2.gSub (tVar i) t1 rSetL)) (sSetW i f1 f2) := by
  refine ⟨ps_asg hv.pe (pg_sub (pe_var hN hvs hd hcd) hk.pe set_list ha) hs hw h1, ?_⟩
  intro F S H r σ q z E hz d P
  refine sof_at hv.ok E hz P fun xv v S1 H1 r1 q1 ex1 k1 E1 rv hz P => ?_
  show tVar i σ H1 (fun o H2 => t1 σ H2 fun y H3 => rSetL o y v H3 fun H4 => d.nx σ H4)
  refine sof_at (tok_var (K := X.K) (W := W) i) E1 hz P fun xo o S2 H2 r2 q2 ex2 k2 E2 ro hz P => ?_
  refine sof_at hk.ok E2 hz P fun xk y S3 H3 r3 q3 ex3 k3 E3 rk hz P => ?_
  cases xo with
  | d _ => cases hz
  | h n =>
    cases xk with
    | h _ => cases hz
    | d xkd =>
      cases xkd with
      | int j =>
        unfold setStep at hz
        cases ew : q3.w[n]? with
        | none => simp only [ew] at hz; cases hz
        | some wo =>
          cases wo with
          | dead => simp only [ew] at hz; cases hz
          | lst xs =>
            simp only [ew] at hz
            cases ei : ixN xs.length j with
            | none => rw [ei] at hz; cases hz
            | some m =>
              rw [ei] at hz
              cases hz
              obtain ⟨ow, e0⟩ := id E3
              obtain ⟨a, vs, g1, g2, g3, g4⟩ := e0.wob n _ ew
              obtain ⟨a', k4, k5⟩ := ro
              have k6 := k3 _ _ k4
              rw [g1] at k6
              cases k6
              have rv3 := rv.mono (ex2.trans ex3) (k2.trans k3)
              refine ⟨a, vs, j, m, k5, xr_int rk, g3, by rw [← g4.length]; exact ei, ?_⟩
              exact P σ S3 _ r3 (Ex.refl _) (Rle.refl _) (E3.setW ew (g4.set m rv3) g1)
      | _ => cases hz
end
end Den

namespace Den
open PySem PySem.Spec PyProof.Rows L2
open Evl (Ex)
section
variable {X : Cx} {W : WX} {e e1 e2 e3 tg : Expr} {es : List Expr} {t t1 t2 t3 : TE} {ta : TA} {f f1 f2 f3 : ME XV} {fa : ME (List XV)} {pos p : Pos} {K : PySem.W.Frag} {fl : ME (List D)} {tt : TT} {gt : ME Bool} {ts : TS} {g : MS}
/-! ### x += e (ints) -/
def augStep (i : Nat) (op : Int → Int → Int) (a : Int) : XV → Stt → Option Fl
  | .d (.int b), q => if i < q.sl.length then some (.nx { q with sl := q.sl.set i (.dat (.int (op a b))) }) else none
  | _, _ => none
def sAug (i : Nat) (op : Int → Int → Int) (f : ME XV) : MS := fun q => match q.sl[i]? with
  | some (.dat (.int a)) => sOf f (augStep i op a) q
  | _ => none
theorem is_aug {op : Int → Int → Int} {o : Operator} (ip : PIp X o (ipI op)) (i : Nat) {x : Str} {pos' : Pos} (hN : X.N.Nodup) (he : IsE X W e t f) (hi : X.N[i]? = some x := by rfl) (hx : Loc X.env.scope x := by first | exact .inl rfl | exact .inr rfl) (hf : X.fn x = true ∨ X.env.scope.names.lookup x = some .local := by first | exact .inl rfl | exact .inr rfl | assumption) :
    IsS X W (.AugAssign (.Name x pos') o e pos) (tAug i t (ipI op)) (sAug i op f) := by
  refine ⟨ps_aug hN hi hx he.pe ip hf, fun F S H r σ q z E hz d P => ?_⟩
  unfold sAug at hz
  cases es : q.sl[i]? with
  | none => simp only [es] at hz; cases hz
  | some s =>
    cases s with
    | dat dd =>
      cases dd with
      | int a =>
        simp only [es] at hz
        obtain ⟨ow, e0⟩ := id E
        obtain ⟨v, h1, h2⟩ := e0.slot i _ es
        rw [Rep] at h2
        subst h2
        refine ⟨.int a, getD_some h1, sof_at he.ok E hz P fun x v S1 H1 r1 q1 ex1 k1 E1 rx hz P => ?_⟩
        cases x with
        | h n => cases hz
        | d x =>
          cases x with
          | int b =>
            obtain ⟨hl, ez⟩ := ifs (show (if i < q1.sl.length then some (Fl.nx { q1 with sl := q1.sl.set i (.dat (.int (op a b))) }) else none) = some z from hz)
            subst ez
            exact ⟨a, b, rfl, xr_int rx, P _ S1 H1 r1 (Ex.refl _) (Rle.refl _) (E1.putD i (show Rep X.K S1 (.int (op a b)) (.int (op a b)) from rp_int) hl)⟩
          | _ => cases hz
      | _ => simp only [es] at hz; cases hz
    | _ => simp only [es] at hz; cases hz
/-! ### a, b = e1, e2 -/
def parStep (i j : Nat) : List XV → Stt → Option Fl
  | [x, y], q => if i < q.sl.length ∧ j < q.sl.length ∧ i ≠ j then some (.nx { q with sl := (q.sl.set i (toSl x)).set j (toSl y) }) else none
  | _, _ => none
theorem is_par (i j : Nat) {x y : Str} {a b : Expr} {px py pt : Pos} {kt k2 pt2} (hN : X.N.Nodup) (ha : IsA X W [a, b] ta fa) (hi : X.N[i]? = some x := by rfl) (hj : X.N[j]? = some y := by rfl) (hij : i ≠ j := by decide)
    (hx : X.env.scope.names.lookup x = some .local := by rfl) (hy : X.env.scope.names.lookup y = some .local := by rfl) (hc : X.calm = true := by rfl)
    (hw : swappedStores [.Tuple [.Name x px, .Name y py] kt pt] (.Tuple [a, b] k2 pt2) X.env = pure (some [x, y]) := by rfl)
    (hs : swapsWithSole [.Tuple [.Name x px, .Name y py] kt pt] (.Tuple [a, b] k2 pt2) pos.line X.env = pure false := by rfl) :
    IsS X W (.Assign [.Tuple [.Name x px, .Name y py] kt pt] (.Tuple [a, b] k2 pt2) pos) (tPar i j ta) (sOf fa (parStep i j)) := by
  refine ⟨ps_par hc hN hi hj hij hx hy ha.pa hw hs, ?_⟩
  refine TokS.of (t2 := fun vs D σ H => ∃ v w, vs = [v, w] ∧ D.nx ((σ.set i (some v)).set j (some w)) H) ha.ok fun xs vs F S H r σ q z E rx hz d P => ?_
  unfold parStep at hz
  split at hz
  · rename_i x y
    obtain ⟨hl, ez⟩ := ifs hz
    subst ez
    obtain ⟨v, t1, rfl, k1, w, t2, rfl, k2, k3⟩ := rx
    have e2 : t2 = [] := k3
    subst e2
    have E1 := E.putX i k1 hl.1
    have E2 := E1.putX j k2 (by simpa using hl.2.1)
    refine ⟨v, w, rfl, P _ S H r (Ex.refl _) (Rle.refl _) ?_⟩
    cases x <;> cases y <;> exact E2
  · cases hz
/-! ### comprehensions -/
structure IsTs (X : Cx) (W : WX) (ifs : List Expr) (t : TT) (g : ME Bool) : Prop where
  pts : PTs X ifs t
  ok : Tok RB X.K W t g
theorem is_tsnil : IsTs X W [] tYes (ret true) := ⟨pts_nil, fun F S H r σ q z E hz Q P => by
  cases hz
  exact P true S H r (Ex.refl _) (Rle.refl _) E rfl⟩
theorem is_tsone {c : Expr} (h : IsT X W c tt gt) : IsTs X W [c] tt gt := ⟨pts_one h.pt, h.ok⟩
theorem is_lc {elt tgt iter : Expr} {ifs : List Expr} {scope : Scope} {own : List (Str × Nat)} {wi : TI} {tg : TG} {js : List Nat} {a : XV → Stt → Option Stt} {fi : ME (List D)} {te : TE} {fe : ME XV} (hN : X.N.Nodup) (hi : IsI X W tgt iter wi fi) (ok : BlkOk X.N X.env.scope scope own)
    (hg : ∀ (s : Shared) (H : Hp) (C : Addr) (cl : List (Str × Addr)) (fp : List Addr), IsG (X.blk s H scope (compEnvC scope cl C X.env) fp) tgt tg js a) (ht : ∀ (s : Shared) (H : Hp) (C : Addr) (cl : List (Str × Addr)) (fp : List Addr), IsTs (X.blk s H scope (compEnvC scope cl C X.env) fp) W0 ifs tt gt)
    (he : ∀ (s : Shared) (H : Hp) (C : Addr) (cl : List (Str × Addr)) (fp : List Addr), IsE (X.blk s H scope (compEnvC scope cl C X.env) fp) W0 elt te fe) (hjs : ∀ j ∈ js, j ∈ own.map (·.2) := by decide) (hc : X.calm = true := by rfl) (hs : ∀ x, foldedSetIterable iter X.env x = pure x := by intro _; rfl) :
    IsL X W (.ListComp elt [⟨tgt, iter, ifs, 0⟩] scope pos) (tLc wi tg tt te (own.map (·.2))) (lLc (own.map (·.2)) fi a gt fe) :=
  ⟨pe_lc hc hN hi.pi ok (fun s H C cl fp => (hg s H C cl fp).pg) (fun s H C cl fp => (ht s H C cl fp).pts) (fun s H C cl fp => (he s H C cl fp).pe) hs,
    tokL_lc hi.ok (hg ⟨⟨#[], {}⟩, #[], {}, 0, default⟩ (fun _ => none) 0 [] []).ok (ht ⟨⟨#[], {}⟩, #[], {}, 0, default⟩ (fun _ => none) 0 [] []).ok (he ⟨⟨#[], {}⟩, #[], {}, 0, default⟩ (fun _ => none) 0 [] []).ok hjs⟩
end
end Den

namespace Den
open PySem PySem.Spec PyProof.Rows L2
open Evl (Ex)
section
variable {X : Cx} {W : WX} {e e1 e2 e3 tg : Expr} {es : List Expr} {t t1 t2 t3 : TE} {ta : TA} {f f1 f2 f3 : ME XV} {fa : ME (List XV)} {pos p : Pos} {K : PySem.W.Frag} {fl : ME (List D)} {tt : TT} {gt : ME Bool} {ts : TS} {g : MS}
/-- name = [..] on one line, the name a plain local: the name's own | data -/
theorem is_setLc {i : Nat} {y : Str} {py : Pos} {elt tgt iter : Expr} {ifs : List Expr} {scope : Scope} {own : List (Str × Nat)} {spos : Pos} {wi : TI} {tg : TG} {js : List Nat} {a : XV → Stt → Option Stt} {fi : ME (List D)} {te : TE} {fe : ME XV} (hN : X.N.Nodup) (hi : IsI X W tgt iter wi fi) (ok : BlkOk X.N X.env.scope scope own)
    (hg : ∀ (s : Shared) (H : Hp) (C : Addr) (cl : List (Str × Addr)) (fp : List Addr), IsG (X.blk s H scope (compEnvC scope cl C X.env) fp) tgt tg js a) (ht : ∀ (s : Shared) (H : Hp) (C : Addr) (cl : List (Str × Addr)) (fp : List Addr), IsTs (X.blk s H scope (compEnvC scope cl C X.env) fp) W0 ifs tt gt)
    (he : ∀ (s : Shared) (H : Hp) (C : Addr) (cl : List (Str × Addr)) (fp : List Addr), IsE (X.blk s H scope (compEnvC scope cl C X.env) fp) W0 elt te fe) (hsw : swapsWith (.ListComp elt [⟨tgt, iter, ifs, 0⟩] scope pos) (some (.Name y py)) spos.line X.env = pure true := by exact sw_true rfl rfl rfl (by decide +kernel))
    (hy : X.N[i]? = some y := by rfl) (hyl : X.env.scope.names.lookup y = some .local := by rfl) (hjs : ∀ j ∈ js, j ∈ own.map (·.2) := by decide) (hc : X.calm = true := by rfl) (hs : ∀ x, foldedSetIterable iter X.env x = pure x := by intro _; rfl) :
    IsS X W (.Assign [.Name y py] (.ListComp elt [⟨tgt, iter, ifs, 0⟩] scope pos) spos) (tAsg (tLc wi tg tt te (own.map (·.2))) (gName i)) (sSetL (lLc (own.map (·.2)) fi a gt fe) i) :=
  ⟨ps_setLc hc hN hy hyl hsw hi.pi ok (fun s H C cl fp => (hg s H C cl fp).pg) (fun s H C cl fp => (ht s H C cl fp).pts) (fun s H C cl fp => (he s H C cl fp).pe) hs, tokS_setL i (is_lc (pos := pos) hN hi ok hg ht he hjs hc hs).ok⟩
theorem is_setLcD {i : Nat} {y : Str} {py : Pos} {elt tgt iter : Expr} {ifs : List Expr} {scope : Scope} {own : List (Str × Nat)} {spos : Pos} {wi : TI} {tg : TG} {js : List Nat} {a : XV → Stt → Option Stt} {fi : ME (List D)} {te : TE} {fe : ME XV} (hN : X.N.Nodup) (hi : IsI X W tgt iter wi fi) (ok : BlkOk X.N X.env.scope scope own)
    (hg : ∀ (s : Shared) (H : Hp) (C : Addr) (cl : List (Str × Addr)) (fp : List Addr), IsG (X.blk s H scope (compEnvC scope cl C X.env) fp) tgt tg js a) (ht : ∀ (s : Shared) (H : Hp) (C : Addr) (cl : List (Str × Addr)) (fp : List Addr), IsTs (X.blk s H scope (compEnvC scope cl C X.env) fp) W0 ifs tt gt)
    (he : ∀ (s : Shared) (H : Hp) (C : Addr) (cl : List (Str × Addr)) (fp : List Addr), IsE (X.blk s H scope (compEnvC scope cl C X.env) fp) W0 elt te fe) (hsw : swapsWith (.ListComp elt [⟨tgt, iter, ifs, 0⟩] scope pos) (some (.Name y py)) spos.line X.env = pure true := by exact sw_true rfl rfl rfl (by decide +kernel))
    (hy : X.N[i]? = some y := by rfl) (hyl : X.env.scope.names.lookup y = some .local := by rfl) (hjs : ∀ j ∈ js, j ∈ own.map (·.2) := by decide) (hc : X.calm = true := by rfl) (hs : ∀ x, foldedSetIterable iter X.env x = pure x := by intro _; rfl) :
    IsS X W (.Assign [.Name y py] (.ListComp elt [⟨tgt, iter, ifs, 0⟩] scope pos) spos) (tAsg (tLc wi tg tt te (own.map (·.2))) (gName i)) (sAsg (eL (lLc (own.map (·.2)) fi a gt fe)) (gSet i)) :=
  ⟨ps_setLc hc hN hy hyl hsw hi.pi ok (fun s H C cl fp => (hg s H C cl fp).pg) (fun s H C cl fp => (ht s H C cl fp).pts) (fun s H C cl fp => (he s H C cl fp).pe) hs, tokS_asg (tok_ofL (is_lc (pos := pos) hN hi ok hg ht he hjs hc hs).ok) (tokG_name i)⟩
/-! ### tuples cut -/
structure IsO (X : Cx) (W : WX) (e : Option Expr) (t : TO) (f : ME (Option Int)) : Prop where
  po : PO X e t
  ok : Tok (fun _ _ x v => x = v) X.K W t f
theorem is_onone : IsO X W none tNoPart (ret none) := ⟨po_none, fun F S H r σ q z E hz Q P => by
  cases hz
  exact P none S H r (Ex.refl _) (Rle.refl _) E rfl⟩
def toI : XV → Option Int
  | .d (.int i) => some i
  | _ => none
theorem is_osome (h : IsE X W e t f) : IsO X W (some e) (tPart t) (bnd f fun x => lft ((toI x).map some)) := by
  refine ⟨po_some h.pe, ?_⟩
  refine Tok.bind (t2 := fun x σ H Q => ∃ i, x = V.int i ∧ Q (some i) H) h.ok fun x v F S H r σ q z E rx hz Q P => ?_
  cases x with
  | h n => cases hz
  | d x =>
    cases x with
    | int i =>
      cases hz
      exact ⟨i, xr_int rx, P _ S H r (Ex.refl _) (Rle.refl _) E rfl⟩
    | _ => cases hz
def cutD (xs : List D) (lo hi : Option Int) : List D := (xs.drop (HT.sIx xs.length 0 lo)).take (HT.sIx xs.length xs.length hi - HT.sIx xs.length 0 lo)
theorem cut_rep {S : Hp} {ds : List D} {vs : List V} {lo hi : Option Int} (h : RepL K S ds vs) : RepL K S (cutD ds lo hi) (cutV vs lo hi) := by
  unfold cutD cutV
  rw [← h.length]
  exact (h.drop _).take _
theorem cut_whole {ds : List D} {lo hi : Option Int} (h : HT.sIx ds.length 0 lo = 0 ∧ HT.sIx ds.length ds.length hi = ds.length) : cutD ds lo hi = ds := by
  unfold cutD
  rw [h.1, h.2, List.drop_zero, Nat.sub_zero, List.take_length]
def slD : XV → Option Int → Option Int → Option XV
  | .d (.tup ds), lo, hi => some (.d (.tup (cutD ds lo hi)))
  | .d (.lst ds), lo, hi => some (.d (.lst (cutD ds lo hi)))
  | .d (.seq ds), lo, hi => some (.d (.lst (cutD ds lo hi)))
  | _, _, _ => none
def rSlX (K : PySem.W.Frag) : V → Option Int → Option Int → Hp → VK → Prop := fun x lo hi H Q => rSlA K x lo hi H Q ∨ rSlL K x lo hi H Q
theorem sl_X : SlR X (rSlX X.K) := SlR.or sl_tupA sl_list
def eSl (f1 : ME XV) (fl fh : ME (Option Int)) : ME XV := bnd f1 fun x => bnd fl fun l => bnd fh fun h => lft (slD x l h)
theorem is_sl {lo hi : Option Expr} {tl th : TO} {p2 : Pos} {f2 f3 : ME (Option Int)} (h : IsE X W e t f) (hl : IsO X W lo tl f2) (hh : IsO X W hi th f3) : IsE X W (.Subscript e (.Slice lo hi none p2) pos) (tSl (rSlX X.K) t tl th) (eSl f f2 f3) := by
  refine ⟨pe_slice sl_X h.pe hl.po hh.po, fun F S H r σ q z E hz Q P => ?_⟩
  show t σ H (fun x H1 => tl σ H1 fun l H2 => th σ H2 fun u H3 => rSlX X.K x l u H3 Q)
  refine run_at (rep2 := RX X.K) h.ok E hz P fun x v S1 H1 r1 q1 ex1 k1 E1 rx hz P => ?_
  refine run_at (rep2 := RX X.K) hl.ok E1 hz P fun l l' S2 H2 r2 q2 ex2 k2 E2 rl hz P => ?_
  refine run_at (rep2 := RX X.K) hh.ok E2 hz P fun u u' S3 H3 r3 q3 ex3 k3 E3 ru hz P => ?_
  subst rl
  subst ru
  have rx3 : XRep X.K S3 r3 x v := rx.mono (ex2.trans ex3) (k2.trans k3)
  unfold slD at hz
  cases x with
  | h n => cases hz
  | d x =>
    have rx' : Rep X.K S3 x v := rx3
    cases x with
    | tup ds =>
      cases hz
      rw [Rep] at rx'
      obtain ⟨a, vs, rfl, h1, h2⟩ := rx'
      refine .inl ⟨a, vs, rfl, Evl.ex_t E3.sub h1, fun hw => ?_, fun hw p hp => ?_⟩
      · rw [← h2.length] at hw
        rw [cut_whole hw] at P
        refine P (.ref a) S3 H3 r3 (Ex.refl _) (Rle.refl _) E3 ?_
        show Rep X.K S3 (.tup ds) _
        rw [Rep]
        exact ⟨a, vs, rfl, h1, h2⟩
      · obtain ⟨S', ex, E', rp⟩ := new_tup E3 hp (cut_rep (lo := l) (hi := u) h2)
        exact P (.ref p) S' _ r3 ex (Rle.refl _) E' rp
    | lst ds =>
      cases hz
      rw [Rep] at rx'
      obtain ⟨a, vs, rfl, h1, h2⟩ := rx'
      refine .inr ⟨a, vs, rfl, SqL.of (E3.sub _ _ h1), fun p hp => ?_⟩
      obtain ⟨S', ex, E', rp⟩ := new_lst E3 hp (cut_rep (lo := l) (hi := u) h2)
      exact P (.ref p) S' _ r3 ex (Rle.refl _) E' rp
    | seq ds =>
      cases hz
      rw [Rep] at rx'
      obtain ⟨a, vs, rfl, h1, h2⟩ := rx'
      refine .inr ⟨a, vs, rfl, Evl.ex_l E3.sub h1, fun p hp => ?_⟩
      obtain ⟨S', ex, E', rp⟩ := new_lst E3 hp (cut_rep (lo := l) (hi := u) h2)
      exact P (.ref p) S' _ r3 ex (Rle.refl _) E' rp
    | _ => cases hz
/-! ### dict(d), isinstance -/
def gDict : List D → Option D
  | [.dic ks ds] => some (.dic ks ds)
  | _ => none
def rDict : List V → Hp → VK → Prop := fun xs H Q => ∃ (a : Addr) (kvs : List (Key × V)), xs = [.ref a] ∧ Rd H a (.dK kvs) ∧ ∀ p, H p = none → Q (.ref p) (upd H p (.dK kvs))
theorem rc_dict : RCok K rDict gDict := by
  intro F S H r σ q ds z vs E rp hz Q k
  unfold gDict at hz
  split at hz
  · rename_i ks ds
    cases hz
    obtain ⟨v, rfl, a, us, rfl, h1, h2, h3⟩ := one_rep (F := H) rp
    refine ⟨a, _, rfl, .inl h1, fun p hp => ?_⟩
    obtain ⟨E2, ex⟩ := (E.add hp (.dK (ks.zip us))).settle (E.newF hp)
    refine k _ _ _ ex E2 ?_
    rw [Rep]
    exact ⟨p, us, rfl, upd_same, h2, RepL.mono ex _ _ h3⟩
  · cases hz
/-- the name of a built-in class as a value -/
theorem is_ty {x : Str} {n : String} (hg : Gl X x) (hm : X.mg x = none) (hv : bootBuiltins x = some (.type n)) (hn : x ≠ "__name__" := by decide) (hd : (x == ("__debug__" : Str)) = false := by decide) : IsE X W (.Name x pos) (tC (.ty n)) (eC (.ty n)) :=
  ⟨pe_bltn hg hm hv rfl hn hd, tok_c fun S => rp_ty⟩
def tyD : D → Option String
  | .non => some "NoneType"
  | .bl _ => some "bool"
  | .int _ => some "int"
  | .str _ => some "str"
  | .tup _ => some "tuple"
  | .lst _ => some "list"
  | .dic _ _ => some "dict"
  | _ => none
/-- the classes that isinstance is asked of here -/
def isTy (a b : String) : Option Bool :=
  if (b = "bool" ∨ b = "int" ∨ b = "str" ∨ b = "tuple" ∨ b = "list" ∨ b = "dict") ∧ (a = "NoneType" ∨ a = "bool" ∨ a = "int" ∨ a = "str" ∨ a = "tuple" ∨ a = "list" ∨ a = "dict") then some (decide (a = b) || (decide (a = "bool") && decide (b = "int"))) else none
theorem isTy_kit {a b : String} {r : Bool} (h : isTy a b = some r) : kitB a b = some r := by
  unfold isTy at h
  obtain ⟨⟨hb, ha⟩, e⟩ := ifs h
  subst e
  rcases hb with rfl | rfl | rfl | rfl | rfl | rfl <;> rcases ha with rfl | rfl | rfl | rfl | rfl | rfl | rfl <;> decide +kernel
def gIsi : List D → Option D
  | [x, .ty n] => (tyD x).bind fun a => (isTy a n).map .bl
  | _ => none
theorem tyD_of {S H : Hp} (E : Ex S H) {x : D} {v : V} {a : String} (h : tyD x = some a) (rx : RepH K S H x v) : TyX K H v (.type a) := by
  cases x with
  | non => cases h; rw [rh_non rx]; exact .base .non
  | bl b => cases h; rw [rh_bl rx]; exact .base (.bl b)
  | int b => cases h; rw [rh_int rx]; exact .base (.int b)
  | str b => cases h; rw [rh_str rx]; exact .base (.str b)
  | tup ds =>
    cases h
    obtain ⟨a, vs, rfl, h1, _⟩ := rh_tup E rx
    rcases h1 with (h1 | ⟨o, h1⟩) | ⟨o, its, n, h1, h2, _⟩
    · exact .base (.tup h1)
    · exact .fTuple h1
    · exact .kTuple h1 h2
  | lst ds =>
    cases h
    obtain ⟨a, vs, rfl, h1, _⟩ := rx
    exact .base (.lst h1)
  | dic ks ds =>
    cases h
    obtain ⟨a, vs, rfl, h1, _⟩ := rx
    exact .base (.dK h1)
  | _ => cases h
theorem rc_isi : RCok K (rIsi K) gIsi := by
  intro F S H r σ q ds z vs E rp hz Q k
  unfold gIsi at hz
  split at hz
  · rename_i x n
    cases e1 : tyD x with
    | none => rw [e1] at hz; cases hz
    | some a =>
      rw [e1] at hz
      have hz' : (isTy a n).map D.bl = some z := hz
      cases e2 : isTy a n with
      | none => rw [e2] at hz'; cases hz'
      | some b =>
        rw [e2] at hz'
        cases hz'
        obtain ⟨v, v2, rfl, h1, h2⟩ := two_rep (F := H) rp
        rw [rh_ty h2]
        exact ⟨v, .ty n, .type a, .type n, b, rfl, .ty n, tyD_of E.sub e1 h1, kit_ty (isTy_kit e2), k _ S H (Ex.refl _) E rp_bl⟩
  · cases hz
/-! ### a def -/
def fnQ (n : Nat) (xs : List XV) (w : List WO) : Stt := ⟨xs.map toSl ++ List.replicate (n - xs.length) .un, w⟩
def fnG (n : Nat) (g : MS) : Fn := fun xs w => match g (fnQ n xs w) with
  | some (.nx q) => some (.ok (.d .non), q.w)
  | some (.rt x q) => some (.ok x, q.w)
  | _ => none
theorem fnG_ne {n : Nat} {g : MS} : ∀ xs w c w', fnG n g xs w ≠ some (.error c, w') := fun xs w c w' h => by
  unfold fnG at h
  split at h <;> cases h
theorem Env.low {F S H : Hp} {r : List Addr} {σ : L2.St} {q : Stt} (E : Env K F S H r σ q) : Env K F S H r [] ⟨[], q.w⟩ := by
  obtain ⟨F', hF, E', _⟩ := E.hide
  obtain ⟨ow, e⟩ := E
  obtain ⟨ow', e'⟩ := E'
  refine ⟨ow', e.sub, e.fr, fun a x k => ?_, rfl, fun i s k => by simp at k, e'.rlen, e'.wob⟩
  obtain ⟨k1, k2, k3⟩ := e'.ows a x k
  refine ⟨k1, ?_, k3⟩
  cases z : F a with
  | none => rfl
  | some o =>
    rw [hF a o z] at k2
    cases k2
theorem Env.enter {F S H : Hp} {r : List Addr} {w : List WO} (E : Env K F S H r [] ⟨[], w⟩) (n : Nat) {xs : List XV} {vs : List V} (rx : XRepL K S r xs vs) :
    Env K F S H r (vs.map some ++ List.replicate (n - vs.length) none) (fnQ n xs w) := by
  obtain ⟨ow, e⟩ := E
  have hl := rx.length
  refine ⟨ow, e.sub, e.fr, e.ows, by simp [fnQ, hl], fun i s k => ?_, e.rlen, e.wob⟩
  have k' : (xs.map toSl ++ List.replicate (n - xs.length) Sl.un)[i]? = some s := k
  by_cases hi : i < xs.length
  · rw [List.getElem?_append_left (by simpa using hi), List.getElem?_map, List.getElem?_eq_getElem hi] at k'
    have es : toSl xs[i] = s := by simpa using k'
    subst es
    obtain ⟨v, h1, h2⟩ := rx.get (List.getElem?_eq_getElem hi)
    have hv : (vs.map some ++ List.replicate (n - vs.length) (none : Option V))[i]? = some (some v) := by
      rw [List.getElem?_append_left (by simp; omega), List.getElem?_map, h1]
      rfl
    rw [hv]
    cases ex : xs[i] with
    | d d =>
      rw [ex] at h2
      exact ⟨v, rfl, h2⟩
    | h m =>
      rw [ex] at h2
      obtain ⟨a, h3, h4⟩ := h2
      exact ⟨a, h3, congrArg some h4⟩
  · rw [List.getElem?_append_right (by simpa using hi)] at k'
    have es : s = .un := by
      rw [List.getElem?_replicate] at k'
      split at k'
      · exact (Option.some.inj k').symm
      · cases k'
    subst es
    trivial
section
variable {P : Program} {w : World} {mg : Str → Option Value} {base : Heap}
/-- THE RULE for a def that raises nothing -/
theorem fn_ok {x qual : Str} {st : Stmt} {f : Addr} {fd : FuncData} {N ps : List Str} {k : Nat} {g : MS} (F : Fun K x qual st f fd) (S : FnScope N ps (defScope st))
    (hb : ∀ (cdv : Value) (A : Around) (outer : List PySem.Env) (s : Shared) (H : Hp) (E : XK), Room k (A.deeper (envOfC qual (defScope st) s.heap.objs.size f cdv)) → ∃ t, IsB (cxOf CX0 P w K mg base N qual (defScope st) f cdv A outer s H E).nox W0 (defBody st) t g) :
    FnOk P w K mg base CX0 (k + 1) f fd ps (spF K ps.length (fnG N.length g)) := by
  refine F.ok S (fun vs H Q E h => h.1) (fun cdv A outer s H vs Q E hr h => ?_)
  obtain ⟨hl, F', S', r, xs, w', z, E0, rx, hg, hP⟩ := h
  obtain ⟨t, hB⟩ := hb cdv A outer s H E hr
  refine ⟨t, hB.ps, ?_⟩
  have E1 := E0.enter N.length rx
  unfold fnG at hg
  cases eg : g (fnQ N.length xs w') with
  | none => rw [eg] at hg; cases hg
  | some fl =>
    rw [eg] at hg
    cases fl with
    | nx q =>
      cases hg
      exact hB.ok F' S' H r _ _ _ E1 eg _ fun σ2 S2 H2 r2 e2 k2 E2 => hP .non S2 H2 r2 e2 k2 E2.low (show Rep K S2 .non .non from rp_non)
    | rt x q =>
      cases hg
      exact hB.ok F' S' H r _ _ _ E1 eg _ fun v σ2 S2 H2 r2 e2 k2 E2 rx2 => hP v S2 H2 r2 e2 k2 E2.low rx2
    | bk q => cases hg
    | ct q => cases hg
    | ex c q => cases hg
end
end
end Den

namespace Den
open PySem PySem.Spec PyProof.Rows L2
open Evl (Ex)
/-- a def of the text as it stands, with what it is worth -/
structure DefOk (P : Program) (w : World) (K : PySem.W.Frag) (mg : Str → Option Value) (base : Heap) (name : Str) (k n : Nat) (G : Fn) : Prop where
  ex : ∃ (f : Addr) (fd : FuncData) (ps : List Str), mg name = some (.ref f) ∧ PySem.W.keepIn K (.ref f) = true ∧ Binds K fd ps [] ∧ FnOk P w K mg base CX0 k f fd ps (spF K n G)
section
variable {X : Cx} {W : WX} {e e1 e2 : Expr} {es : List Expr} {ta : TA} {fa : ME (List XV)} {pos p : Pos} {t t1 t2 : TE} {f f1 f2 : ME XV}
theorem is_callD {name : Str} {k n : Nat} {G : Fn} (d : DefOk X.prog X.w X.K X.mg X.base name k n G) (hr : Room k X.A) (hne : ∀ xs w c w', G xs w ≠ some (.error c, w')) (ha : IsA X W (e :: es) ta fa) (hg : Gl X name := by rfl) (hdb : (name == ("__debug__" : Str)) = false := by decide)
    (he : starEach (e :: es) X.env = (false, eval e X.env) :: starEach es X.env := by rfl) (hpl : (backTo pos (starEach es X.env)).any (·.1) = false := by rfl) : IsE X W (.Call (.Name name p) (e :: es) [] pos) (tCall (spF X.K n G) [] E0 ta) (eCall n G fa) := by
  obtain ⟨f, fd, ps, hm, hk, hb, F⟩ := d.ex
  exact is_call (CXx := CX0) F hr hg hm hk hb ha hne hdb he hpl
/-- a def without parameters -/
theorem is_callD0 {name : Str} {k : Nat} {G : Fn} (d : DefOk X.prog X.w X.K X.mg X.base name k 0 G) (hr : Room k X.A) (hne : ∀ xs w c w', G xs w ≠ some (.error c, w')) (hg : Gl X name := by rfl) (hdb : (name == ("__debug__" : Str)) = false := by decide) :
    IsE X W (.Call (.Name name p) [] [] pos) (tCall (spF X.K 0 G) [] E0 tNil) (eCall 0 G aNil) := by
  obtain ⟨f, fd, ps, hm, hk, hb, F⟩ := d.ex
  refine ⟨pe_call0 F hr hg hm hk hb .nil pass0 hdb, ?_⟩
  refine Tok.bind (rep := RXL X.K) (te := tNil) (t2 := fun xs σ H Q => spF X.K 0 G (xs ++ []) H Q E0) (is_anil (X := X) (W := W)).ok fun x v F S H r σ q z E rx hz Q P => ?_
  obtain ⟨h1, F', S', r', xs', w', z', h2, h3, h4, h5⟩ := sp_of (W := W) E rx hz P
  refine ⟨h1, F', S', r', xs', w', z', h2, h3, h4, ?_⟩
  obtain ⟨y, w2⟩ := z'
  cases y with
  | ok y => exact h5
  | error c => exact absurd h4 (hne _ _ _ _)
theorem def_ok {P : Program} {w : World} {K : PySem.W.Frag} {mg : Str → Option Value} {base : Heap} {x qual : Str} {st : Stmt} {fA : Addr} {fd : FuncData} {N ps : List Str} {k n : Nat} {g : MS} (F : Fun K x qual st fA fd) (hm : mg x = some (.ref fA)) (b : Binds K fd ps []) (S : FnScope N ps (defScope st)) (hn : ps.length = n)
    (hb : ∀ (cdv : Value) (A : Around) (outer : List PySem.Env) (s : Shared) (H : Hp) (E : XK), Room k (A.deeper (envOfC qual (defScope st) s.heap.objs.size fA cdv)) → ∃ t, IsB (cxOf CX0 P w K mg base N qual (defScope st) fA cdv A outer s H E).nox W0 (defBody st) t g) :
    DefOk P w K mg base x (k + 1) n (fnG N.length g) := ⟨⟨fA, fd, ps, hm, F.kp, b, by rw [← hn]; exact fn_ok F S hb⟩⟩
/-! shorter names -/
theorem is_len {p : Pos} (hm : X.mg "len" = none) (h : IsE X W e t f) (hg : Gl X "len" := by rfl) (he : starEach [e] X.env = (false, eval e X.env) :: starEach [] X.env := by rfl) : IsE X W (.Call (.Name "len" p) [e] [] pos) (tCB (rLenX X.K) (tCons t tNil)) (eCB gLen (aCons f aNil)) :=
  is_cb call_lenX rc_len hg hm (by decide +kernel) (is_acons h is_anil he) (he := he)
theorem is_lenV (i : Nat) {y : Str} {p p2 : Pos} (hm : X.mg "len" = none) (hg : Gl X "len" := by rfl) (hN : X.N[i]? = some y := by rfl) (hvs : Vis X.env.scope y := by first | exact Or.inl rfl | exact Or.inr (Or.inl rfl) | exact Or.inr (Or.inr rfl)) (hd : (y == ("__debug__" : Str)) = false := by decide)
    (hcd : (y == ("__classdict__" : Str)) = false := by decide) (he0 : starEach [.Name y p2] X.env = (false, eval (.Name y p2) X.env) :: starEach [] X.env := by rfl) : IsE X W (.Call (.Name "len" p) [.Name y p2] [] pos) (tCB (rLenX X.K) (tCons (tVar i) tNil)) (eCBV gLen i) :=
  is_cbV i call_lenX rc_len hg hm (by decide +kernel) hN hvs hd hcd (he0 := he0)
theorem is_int1 {p : Pos} (hm : X.mg "int" = none) (h : IsE X W e t f) (hg : Gl X "int" := by rfl) (he : starEach [e] X.env = (false, eval e X.env) :: starEach [] X.env := by rfl) : IsE X W (.Call (.Name "int" p) [e] [] pos) (tCB (fun xs H Q => (∃ i, xs = [.int i] ∧ Q (.int i) H) ∨ ∃ k, xs = [.bl k] ∧ Q (.int (if k then 1 else 0)) H) (tCons t tNil)) (eCB gInt (aCons f aNil)) :=
  is_cty call_int1 rc_int hg hm (by decide +kernel) (is_acons h is_anil he) (he := he)
theorem is_abs {p : Pos} (hm : X.mg "abs" = none) (h : IsE X W e t f) (hg : Gl X "abs" := by rfl) (he : starEach [e] X.env = (false, eval e X.env) :: starEach [] X.env := by rfl) : IsE X W (.Call (.Name "abs" p) [e] [] pos) (tCB (fun xs H Q => ∃ i, xs = [.int i] ∧ Q (.int (if i < 0 then -i else i)) H) (tCons t tNil)) (eCB gAbs (aCons f aNil)) :=
  is_cb call_abs rc_abs hg hm (by decide +kernel) (is_acons h is_anil he) (he := he)
theorem is_max2 {p : Pos} (hm : X.mg "max" = none) (h : IsE X W e1 t1 f1) (h2 : IsE X W e2 t2 f2) (hc : X.calm = true := by rfl) (hg : Gl X "max" := by rfl) (he : starEach [e1, e2] X.env = (false, eval e1 X.env) :: starEach [e2] X.env := by rfl) (he2 : starEach [e2] X.env = (false, eval e2 X.env) :: starEach [] X.env := by rfl) (hpl : (backTo pos (starEach [e2] X.env)).any (·.1) = false := by rfl) :
    IsE X W (.Call (.Name "max" p) [e1, e2] [] pos) (tCB (fun xs H Q => ∃ i j, xs = [.int i, .int j] ∧ Q (.int (if j > i then j else i)) H) (tCons t1 (tCons t2 tNil))) (eCB gMax (aCons f1 (aCons f2 aNil))) :=
  is_cb (call_max2 hc) rc_max hg hm (by decide +kernel) (is_acons h (is_acons h2 is_anil he2) he) (he := he) (hpl := hpl)
theorem is_min2 {p : Pos} (hm : X.mg "min" = none) (h : IsE X W e1 t1 f1) (h2 : IsE X W e2 t2 f2) (hc : X.calm = true := by rfl) (hg : Gl X "min" := by rfl) (he : starEach [e1, e2] X.env = (false, eval e1 X.env) :: starEach [e2] X.env := by rfl) (he2 : starEach [e2] X.env = (false, eval e2 X.env) :: starEach [] X.env := by rfl) (hpl : (backTo pos (starEach [e2] X.env)).any (·.1) = false := by rfl) :
    IsE X W (.Call (.Name "min" p) [e1, e2] [] pos) (tCB (fun xs H Q => ∃ i j, xs = [.int i, .int j] ∧ Q (.int (if j < i then j else i)) H) (tCons t1 (tCons t2 tNil))) (eCB gMin (aCons f1 (aCons f2 aNil))) :=
  is_cb (call_min2 hc) rc_min hg hm (by decide +kernel) (is_acons h (is_acons h2 is_anil he2) he) (he := he) (hpl := hpl)
theorem is_sum {p : Pos} (hm : X.mg "sum" = none) (h : IsE X W e t f) (hc : X.calm = true := by rfl) (hg : Gl X "sum" := by rfl) (he : starEach [e] X.env = (false, eval e X.env) :: starEach [] X.env := by rfl) : IsE X W (.Call (.Name "sum" p) [e] [] pos) (tCB (rSum X.K) (tCons t tNil)) (eCB gSum (aCons f aNil)) :=
  is_cb (cr_sum hc) rc_sum hg hm (by decide +kernel) (is_acons h is_anil he) (he := he)
theorem is_tuple {p : Pos} (hm : X.mg "tuple" = none) (h : IsE X W e t f) (hg : Gl X "tuple" := by rfl) (he : starEach [e] X.env = (false, eval e X.env) :: starEach [] X.env := by rfl) : IsE X W (.Call (.Name "tuple" p) [e] [] pos) (tCB (rTuple X.K) (tCons t tNil)) (eCB gTuple (aCons f aNil)) :=
  is_cty call_tuple_of rc_tuple hg hm (by decide +kernel) (is_acons h is_anil he) (he := he)
theorem is_tupleV (i : Nat) {y : Str} {p p2 : Pos} (hm : X.mg "tuple" = none) (hg : Gl X "tuple" := by rfl) (hN : X.N[i]? = some y := by rfl) (hvs : Vis X.env.scope y := by first | exact Or.inl rfl | exact Or.inr (Or.inl rfl) | exact Or.inr (Or.inr rfl)) (hd : (y == ("__debug__" : Str)) = false := by decide)
    (hcd : (y == ("__classdict__" : Str)) = false := by decide) (he0 : starEach [.Name y p2] X.env = (false, eval (.Name y p2) X.env) :: starEach [] X.env := by rfl) : IsE X W (.Call (.Name "tuple" p) [.Name y p2] [] pos) (tCB (rTuple X.K) (tCons (tVar i) tNil)) (eCBV gTuple i) :=
  is_ctyV i call_tuple_of rc_tuple hg hm (by decide +kernel) hN hvs hd hcd (he0 := he0)
theorem is_list {p : Pos} (hm : X.mg "list" = none) (h : IsE X W e t f) (hg : Gl X "list" := by rfl) (he : starEach [e] X.env = (false, eval e X.env) :: starEach [] X.env := by rfl) : IsL X W (.Call (.Name "list" p) [e] [] pos) (tCB (rList X.K) (tCons t tNil)) (lCB gList (aCons f aNil)) :=
  is_lcty call_list_of rl_list hg hm (by decide +kernel) (is_acons h is_anil he) (he := he)
theorem is_dict {p : Pos} (hm : X.mg "dict" = none) (h : IsE X W e t f) (hg : Gl X "dict" := by rfl) (he : starEach [e] X.env = (false, eval e X.env) :: starEach [] X.env := by rfl) : IsE X W (.Call (.Name "dict" p) [e] [] pos) (tCB rDict (tCons t tNil)) (eCB gDict (aCons f aNil)) :=
  is_cty call_dictD rc_dict hg hm (by decide +kernel) (is_acons h is_anil he) (he := he)
theorem is_isi {p : Pos} (hm : X.mg "isinstance" = none) (h : IsE X W e1 t1 f1) (h2 : IsE X W e2 t2 f2) (hg : Gl X "isinstance" := by rfl) (he : starEach [e1, e2] X.env = (false, eval e1 X.env) :: starEach [e2] X.env := by rfl) (he2 : starEach [e2] X.env = (false, eval e2 X.env) :: starEach [] X.env := by rfl) (hpl : (backTo pos (starEach [e2] X.env)).any (·.1) = false := by rfl) :
    IsE X W (.Call (.Name "isinstance" p) [e1, e2] [] pos) (tCB (rIsi X.K) (tCons t1 (tCons t2 tNil))) (eCB gIsi (aCons f1 (aCons f2 aNil))) :=
  is_cb call_isi rc_isi hg hm (by decide +kernel) (is_acons h (is_acons h2 is_anil he2) he) (he := he) (hpl := hpl)
/-- {} as a value -/
def eNewK : ME XV := ret (.d (.dic [] []))
theorem is_emptyK : IsE X W (.Dict [] [] pos) tDNewK eNewK := ⟨pe_dnewK, fun F S H r σ q z E hz Q P p hp => by
  cases hz
  obtain ⟨E2, ex⟩ := (E.add hp (.dK [])).settle (E.newF hp)
  refine P (.ref p) _ _ r ex (Rle.refl _) E2 ?_
  show Rep X.K _ (.dic [] []) _
  rw [Rep]
  exact ⟨p, [], rfl, upd_same, rfl, RepL.nil⟩⟩
end
end Den

namespace Den
open PySem PySem.Spec PyProof.Rows L2
open Evl (Ex)
theorem isE_t {X : Cx} {W : WX} {e : Expr} {t t' : TE} {f : ME XV} (h : IsE X W e t' f) (ht : t' = t) : IsE X W e t f := ht ▸ h
theorem isTs_t {X : Cx} {W : WX} {es : List Expr} {t t' : TT} {f : ME Bool} (h : IsTs X W es t' f) (ht : t' = t) : IsTs X W es t f := ht ▸ h
theorem isG_t {X : Cx} {e : Expr} {t t' : TG} {js : List Nat} {a : XV → Stt → Option Stt} (h : IsG X e t' js a) (ht : t' = t) : IsG X e t js a := ht ▸ h
theorem def_zero {P : Program} {w : World} {K : PySem.W.Frag} {mg : Str → Option Value} {base : Heap} {x qual : Str} {st : Stmt} {fA : Addr} {fd : FuncData} {ps : List Str} {n : Nat} (F : Fun K x qual st fA fd) (hm : mg x = some (.ref fA)) (b : Binds K fd ps []) (hn : ps.length = n) :
    DefOk P w K mg base x 0 n (fun _ _ => none) := ⟨⟨fA, fd, ps, hm, F.kp, b, ⟨fun vs H Q E h => h.1.trans hn.symm, fun A outer s H args us vs Q E hr e0 bt vl h => by
  obtain ⟨_, _, _, _, _, _, _, _, _, h, _⟩ := h
  cases h⟩⟩⟩
theorem repL_ints {K : PySem.W.Frag} {S : Hp} : ∀ ns : List Int, RepL K S (ns.map .int) (ns.map V.int)
  | [] => RepL.nil
  | n :: ns => RepL.cons rp_int (repL_ints ns)
/-- how the law is begun -/
theorem start {K : PySem.W.Frag} {G : Fn} {ns : List Int} {H : Hp} {a : Addr} (h : ∃ w', G [.d (.seq (ns.map .int))] [] = some (.ok (.d (.bl true)), w')) (hS : SqL K H a (ns.map V.int)) : spF K 1 G [.ref a] H (fun v _ => v = .bl true) fun _ _ _ => False := by
  obtain ⟨w', hg⟩ := h
  refine ⟨rfl, fun _ => none, H, [], [.d (.seq (ns.map .int))], [], _, ⟨fun _ => none, ⟨Ex.refl _, fun a o h => (nomatch h), fun a x h => (nomatch h), rfl, fun i s h => (by simp at h), rfl, fun n o h => (by simp at h)⟩⟩, ⟨.ref a, [], rfl, ?_, rfl⟩, hg, fun v S' H' r' _ _ _ rx => ?_⟩
  · show Rep K H (.seq _) _
    rw [Rep]
    exact ⟨a, _, rfl, hS, repL_ints ns⟩
  · have rx' : Rep K S' (.bl true) v := rx
    rw [Rep] at rx'
    exact rx'
end Den

namespace Den
open PySem PySem.Spec PyProof.Rows L2
open Evl (Ex)
set_option maxHeartbeats 1000000 in
theorem meets_enum1 {v : Value} {o : Obj} {H : Heap → Prop} (B : Begins v o H) :
    Meets (Builtin.«enumerate.__new__» ⟨[.type "enumerate", v], []⟩) (fun _ R s => H s.heap ∧
      R (.ok (.ret (.ref (s.heap.push o).objs.size))) { s with heap := (s.heap.push o).push { cls := .type "enumerate", data := .fields #[.none, .bool false, .ref s.heap.objs.size, rawInt 0, .none, .none] } }) :=
  .of_wp fun prog w A R s h => by
    obtain ⟨hp, g, d, tk, os⟩ := s
    obtain ⟨h1, h⟩ := h
    have hsub := sub_enumerate
    have q1 : ∀ {A' : Around} {E : Value → Shared → Prop} {Q : Value → Shared → Prop}, Q (.ref hp.objs.size) ⟨hp.push o, g, d, tk, os⟩ → wpAny (model prog w) A' (pyIter v) Q E ⟨hp, g, d, tk, os⟩ :=
      fun q => B.iter prog w _ _ ⟨hp, g, d, tk, os⟩ _ h1 q
    wp_walk using q1
    refine wpAny_stack_any fun st => wpAny_pure ?_
    split
    · rename_i c _ _ _ _ _
      cases (c == Value.type "enumerate")
      · wp_walk using q1
        exact ⟨_, rfl, h⟩
      · wp_walk using q1
        exact ⟨_, rfl, h⟩
    · wp_walk using q1
      exact ⟨_, rfl, h⟩
theorem call_enum1 {prog : Program} {w : World} {A : Around} {E : Value → Shared → Prop} {s : Shared} {v : Value} {o : Obj} {H : Heap → Prop} {Q : Value → Shared → Prop} (B : Begins v o H) (h1 : H s.heap)
    (h : ∀ h', IsEnum h' (s.heap.objs.size + 1) s.heap.objs.size 0 .none → h'.get? s.heap.objs.size = some o → h'.objs.size = s.heap.objs.size + 2 →
      (∀ b o, s.heap.get? b = some o → h'.get? b = some o) → Q (.ref (s.heap.objs.size + 1)) { s with heap := h' }) :
    wpAny (model prog w) A (call (.type "enumerate") [v]) Q E s := by
  refine callType_new F.called_enumerate (by decide) (F.typeCall_enumerate_1 _) (F.newCall_enumerate_1 _) (fun obj => F.args_object_init_2 obj _) F.entry_enumerate_new (meets_enum1 B) ⟨h1, ?_⟩
  have hz : (s.heap.push o).objs.size = s.heap.objs.size + 1 := Heap.size_push ..
  show _ ∧ _
  rw [hz]
  have he : IsEnum ((s.heap.push o).push { cls := .type "enumerate", data := .fields #[.none, .bool false, .ref s.heap.objs.size, rawInt 0, .none, .none] }) (s.heap.objs.size + 1) s.heap.objs.size 0 .none := by
    have z := Heap.get?_push_size (s.heap.push o) (o := { cls := .type "enumerate", data := .fields #[.none, .bool false, .ref s.heap.objs.size, rawInt 0, .none, .none] }) rfl
    rw [hz] at z
    exact z
  refine ⟨⟨_, he, rfl⟩, h _ he (Heap.get?_push_of_some _ (Heap.get?_push_size _ B.free)) (by rw [Heap.size_push, hz]) fun b o x => Heap.get?_push_of_some _ (Heap.get?_push_of_some _ x)⟩
/-! ### enumerate over a tuple -/
def Itet (K : PySem.W.Frag) (a : Addr) : It :=
  ⟨fun i H => ∃ (xs : List V) (x : V), SqT K H a xs ∧ xs[i]? = some x, fun i H v H' => ∃ T x, v = .ref T ∧ H T = none ∧ H' = upd H T (.tup [.int (i : Nat), x]) ∧ ∀ xs, SqT K H a xs → xs[i]? = some x, fun i H => ∃ xs : List V, SqT K H a xs ∧ xs.length ≤ i⟩
theorem turn_enumT {P : Program} {w : World} {K : PySem.W.Frag} {elts : List Expr} {kk : Nat} {tpos : Pos} (a e it : Addr) :
    Turn P w K (.Tuple elts kk tpos) (Itet K a) [e, it] e (fun i h => (∃ old, IsEnum h e it ((i : Nat) : Int) old) ∧ h.IsTupleIter it a i ∧ e ≠ it ∧ e ≠ a ∧ it ≠ a) where
  mem := by simp
  obj := fun i h st b hb => by
    obtain ⟨⟨old, he⟩, ⟨o, ho, hc, hd⟩, _⟩ := st
    have e' : b = e ∨ b = it := by simpa using hb
    rcases e' with z | z
    · rw [z]; exact ⟨_, he, fun v q => nomatch q⟩
    · rw [z]; exact ⟨o, ho, fun v q => by rw [hd] at q; cases q⟩
  keep := fun i h h' st k => let ⟨⟨old, he⟩, hi, hne⟩ := st; ⟨⟨old, k e (by simp) _ he⟩, hi.at fun o q => k it (by simp) o q, hne⟩
  item := by
    intro X hP hw hK hc i pins s σ H E I hf st hg
    subst hP hw hK
    obtain ⟨⟨old, he⟩, hit, hne, hea, hia⟩ := st
    obtain ⟨xs, x, hq, hx⟩ := hg
    obtain ⟨its, rv, p, hz⟩ := I.tuple hq
    obtain ⟨u, hu, ru⟩ := rv.get hx
    have hel : e < s.heap.objs.size := Heap.lt_size he
    have hil : it < s.heap.objs.size := by obtain ⟨_, q, _⟩ := hit; exact Heap.lt_size q
    have hlt : i < its.toArray.size := by
      have hh := (List.getElem?_eq_some_iff.1 hu).1
      simpa using hh
    refine wpAny_pyNext_enum_itemD (Draws.tuple (show Around.handled (Around.in1 _) = none from I.ok.hd hc) it a (Ne.symm hia) its.toArray) he ⟨hit, show s.heap.IsTuple a its.toArray from p⟩ hlt hne (by simp [hne, hea]) fun x' h' tk hP ho hs' hT hsz hk => ?_
    have ex' : x' = u := by
      have q1 : its.toArray[i]? = some u := by simpa using hu
      exact Option.some.inj (hP.symm.trans q1)
    subst ex'
    obtain ⟨hit', _⟩ := hs'
    refine ⟨_, rfl, wpAny_letOwnedTupleGo_enum (s := { s with heap := h', toks := tk + 1 }) ho fun h'' he' sb => ?_⟩
    have hT2 : h''.get? s.heap.objs.size = some { cls := .type "tuple", data := .seq #[.int i tk, x'] } := (sb.2 _ (Nat.ne_of_gt hel)).trans hT
    have new : ObjOk X.prog X.w (upd H s.heap.objs.size (.tup [.int (i : Nat), x])) h'' s.heap.objs.size (.tup [.int (i : Nat), x]) :=
      ⟨by show 2 ≤ sizeLine; decide, [.int i tk, x'], .cons ⟨_, rfl⟩ (.cons ru .nil), ⟨_, hT2, rfl, _, rfl⟩⟩
    have I1 : Inv X pins σ (upd H s.heap.objs.size (.tup [.int (i : Nat), x])) { s with heap := h'', toks := tk + 1 } :=
      I.turnedNew (ch := [e, it]) (fun b ob hb q => (sb.2 b (fun z => hb (by simp [z]))).trans (hk b ob (fun z => hb (by simp [z])) (fun z => hb (by simp [z])) q)) hf (Nat.le_refl _) new
    refine ⟨.ref s.heap.objs.size, _, I1, rfl, ⟨_, x, rfl, I.hok.fresh (Nat.le_refl _), rfl, fun ys hy => by rw [I.tuple_inj hy hq]; exact hx⟩, ⟨⟨x', ?_⟩, hit'.at fun o q => (sb.2 it (Ne.symm hne)).trans q, hne, hea, hia⟩, fun b hb => ?_⟩
    · have e1 : ((i + 1 : Nat) : Int) = (i : Int) + 1 := by omega
      rw [e1]; exact he'
    · have hb' : b < s.heap.objs.size := by
        have e' : b = e ∨ b = it := by simpa using hb
        rcases e' with z | z
        · rw [z]; exact hel
        · rw [z]; exact hil
      rw [upd_ne (Nat.ne_of_lt hb')]
      exact (hf b hb).1
  done := by
    intro X hP hw hK hc i pins s σ H E I hf st hg
    subst hP hw hK
    obtain ⟨⟨old, he⟩, hit, hne, hea, hia⟩ := st
    obtain ⟨xs, hq, hx⟩ := hg
    obtain ⟨its, rv, p, hz⟩ := I.tuple hq
    obtain ⟨f0, f1, f2, f3, f4, f5⟩ := hf it (by simp)
    have hl := rv.length
    have D : Draws X.prog X.w (Around.in1 X.A) it [it, a] i (fun _ _ => False) (fun j h => j = i ∧ h.IsTupleIter it a i ∧ h.IsTuple a its.toArray) :=
      { live := fun _ _ st => let ⟨o, ho, _⟩ := st.2.1; ⟨o, ho⟩
        frame := fun _ _ _ st hk => ⟨st.1, st.2.1.at fun o e => hk it (by simp) o e, st.2.2.at fun o e => hk a (by simp) o e⟩
        item := fun j s Q E hj st _ => absurd st.1 (Nat.ne_of_lt hj)
        done := fun s Q E st hE => wpAny_nextOf_tuple_end (show Around.handled (Around.in1 _) = none from I.ok.hd hc) st.2.1 st.2.2 (by simp; omega) hE }
    exact wpAny_pyNext_enum_endD D he ⟨rfl, hit, show s.heap.IsTuple a its.toArray from p⟩ fun h' eb => ⟨rfl, I.turned (t' := s.toks) (fun b o hb q => eb b o hb q) f0 f1 f3 f4 f5⟩
  self := fun A i s Q E st h => let ⟨⟨_, he⟩, _⟩ := st; wpAny_pyIter_enum he h
theorem wpAny_pyIterT {prog : Program} {w : World} {A : Around} {E : Value → Shared → Prop} {s : Shared} {a : Addr} {its : Array Value} {Q : Value → Shared → Prop} (h : s.heap.IsTuple a its)
    (k : ∀ h', IsEnum h' (s.heap.objs.size + 1) s.heap.objs.size 0 .none → h'.IsTupleIter s.heap.objs.size a 0 → h'.objs.size = s.heap.objs.size + 2 →
      (∀ b o, s.heap.get? b = some o → h'.get? b = some o) → Q (.ref (s.heap.objs.size + 1)) { s with heap := h' }) :
    wpAny (model prog w) A (call (.type "enumerate") [.ref a]) Q E s :=
  call_enum1 (begins_tuple a its) h fun h' h1 h2 h3 h4 => k h' h1 ⟨_, h2, rfl, rfl⟩ h3 h4
/-- enumerate over a list or a tuple -/
def iEnX (K : PySem.W.Frag) (tl : TE) : TI := fun σ H R => tl σ H fun x H1 => ∃ a, x = .ref a ∧ ((∃ xs, SqL K H1 a xs) ∧ R (Ite K a) H1 ∨ (∃ xs, SqT K H1 a xs) ∧ R (Itet K a) H1)
section
variable {X : Cx} {W : WX} {e : Expr} {t : TE} {f : ME XV} {pos p tpos : Pos} {elts : List Expr} {kk : Nat} {K : PySem.W.Frag}
theorem pi_enX (hl : PE X e t) (hg : Gl X "enumerate") (hm : X.mg "enumerate" = none) (hs : starEach [e] X.env = (false, eval e X.env) :: starEach [] X.env := by rfl) :
    PI X (.Tuple elts kk tpos) (.Call (.Name "enumerate" p) [e] [] pos) (iEnX X.K t) := by
  have ha := pa_cons hl (pa_nil (X := X)) hs
  refine ⟨fun pins s σ H R I h => ?_⟩
  refine Call_ (ld_blt I hg hm boot_enumerate (PyProof.Rows.callWith_type1 (thn (ha.run pos pins s σ H (fun vs H1 => match vs with | [v] => ∃ a, v = .ref a ∧ ((∃ xs, SqL X.K H1 a xs) ∧ R (Ite X.K a) H1 ∨ (∃ xs, SqT X.K H1 a xs) ∧ R (Itet X.K a) H1) | _ => False) I h) fun us s1 ⟨vs, H1, I1, r1, q1⟩ => ?_) hs rfl))
  cases r1 with
  | nil => exact q1.elim
  | cons r rr =>
    cases rr with
    | cons _ _ => exact q1.elim
    | nil =>
    obtain ⟨a, ex2, q⟩ := q1
    subst ex2
    cases r
    rcases q with ⟨⟨xs, hq⟩, q⟩ | ⟨⟨xs, hq⟩, q⟩
    · obtain ⟨its, rv, p', hz⟩ := I1.list hq
      refine call_enumerate_list p'.isList fun h' he hit hsz hk => wpAny_pyIter_enum he ?_
      have I2 : Inv X pins σ H1 { s1 with heap := h' } := I1.kept (t' := s1.toks) hk
      refine ⟨s1.heap.objs.size + 1, [s1.heap.objs.size + 1, s1.heap.objs.size], _, _, H1, rfl, I2, turn_enum a (s1.heap.objs.size + 1) s1.heap.objs.size, ⟨⟨.none, he⟩, hit, Nat.succ_ne_self _⟩, fun b hb => ?_, q⟩
      have e' : b = s1.heap.objs.size + 1 ∨ b = s1.heap.objs.size := by simpa using hb
      have hle : s1.heap.objs.size ≤ b := by
        rcases e' with z | z
        · rw [z]; exact Nat.le_add_right _ _
        · rw [z]; exact Nat.le_refl _
      exact I1.fpOk hle (I1.hok.fresh hle)
    · obtain ⟨its, rv, p', hz⟩ := I1.tuple hq
      have hlt : a < s1.heap.objs.size := by obtain ⟨_, q, _⟩ := (show s1.heap.IsTuple a its.toArray from p'); exact Heap.lt_size q
      refine wpAny_pyIterT (show s1.heap.IsTuple a its.toArray from p') fun h' he hit hsz hk => wpAny_pyIter_enum he ?_
      have I2 : Inv X pins σ H1 { s1 with heap := h' } := I1.kept (t' := s1.toks) hk
      refine ⟨s1.heap.objs.size + 1, [s1.heap.objs.size + 1, s1.heap.objs.size], _, _, H1, rfl, I2, turn_enumT a (s1.heap.objs.size + 1) s1.heap.objs.size, ⟨⟨.none, he⟩, hit, Nat.succ_ne_self _, Nat.ne_of_gt (Nat.lt_succ_of_lt hlt), Nat.ne_of_gt hlt⟩, fun b hb => ?_, q⟩
      have e' : b = s1.heap.objs.size + 1 ∨ b = s1.heap.objs.size := by simpa using hb
      have hle : s1.heap.objs.size ≤ b := by
        rcases e' with z | z
        · rw [z]; exact Nat.le_add_right _ _
        · rw [z]; exact Nat.le_refl _
      exact I1.fpOk hle (I1.hok.fresh hle)
def enumD (ds : List D) : List D := ds.zipIdx.map fun x => .tup [.int x.2, x.1]
theorem enumD_get {ds : List D} {i : Nat} {d : D} (h : (enumD ds)[i]? = some d) : ∃ x, ds[i]? = some x ∧ d = .tup [.int i, x] := by
  unfold enumD at h
  rw [List.getElem?_map, List.getElem?_zipIdx] at h
  cases e : ds[i]? with
  | none => rw [e] at h; cases h
  | some x =>
    rw [e] at h
    refine ⟨x, rfl, ?_⟩
    have h' := Option.some.inj h
    simpa using h'.symm
theorem enumD_len {ds : List D} : (enumD ds).length = ds.length := by simp [enumD]
theorem wlk_enL {S : Hp} {a : Addr} {vs : List V} {ds : List D} (h : SqL K S a vs) (rp : RepL K S ds vs) : Wlk K S (Ite K a) (enumD ds) := by
  refine ⟨fun F S2 H r σ q i d e E hd => ?_, fun F S2 H r σ q i e E hi => ?_⟩
  · have h2 : SqL K H a vs := Evl.ex_l E.sub (Evl.ex_l e h)
    obtain ⟨x, hx, rfl⟩ := enumD_get hd
    obtain ⟨v, hv, rv⟩ := rp.get hx
    refine ⟨⟨vs, v, h2, hv⟩, fun x' H' y => ?_⟩
    obtain ⟨T, y, rfl, hT, rfl, hy⟩ := y
    have ey : y = v := Option.some.inj ((hy vs h2).symm.trans hv)
    subst ey
    obtain ⟨S', ex, E', rp'⟩ := new_tup E hT (ds := [.int i, x]) (vs := [.int i, y]) ⟨_, _, rfl, rp_int, _, _, rfl, Rep.mono e _ _ rv, rfl⟩
    exact ⟨S', ex, E', rp'⟩
  · exact ⟨vs, Evl.ex_l E.sub (Evl.ex_l e h), by rw [← rp.length, ← enumD_len]; exact hi⟩
theorem wlk_enT {S : Hp} {a : Addr} {vs : List V} {ds : List D} (h : SqT K S a vs) (rp : RepL K S ds vs) : Wlk K S (Itet K a) (enumD ds) := by
  refine ⟨fun F S2 H r σ q i d e E hd => ?_, fun F S2 H r σ q i e E hi => ?_⟩
  · have h2 : SqT K H a vs := Evl.ex_t E.sub (Evl.ex_t e h)
    obtain ⟨x, hx, rfl⟩ := enumD_get hd
    obtain ⟨v, hv, rv⟩ := rp.get hx
    refine ⟨⟨vs, v, h2, hv⟩, fun x' H' y => ?_⟩
    obtain ⟨T, y, rfl, hT, rfl, hy⟩ := y
    have ey : y = v := Option.some.inj ((hy vs h2).symm.trans hv)
    subst ey
    obtain ⟨S', ex, E', rp'⟩ := new_tup E hT (ds := [.int i, x]) (vs := [.int i, y]) ⟨_, _, rfl, rp_int, _, _, rfl, Rep.mono e _ _ rv, rfl⟩
    exact ⟨S', ex, E', rp'⟩
  · exact ⟨vs, Evl.ex_t E.sub (Evl.ex_t e h), by rw [← rp.length, ← enumD_len]; exact hi⟩
def iEn (f : ME XV) : ME (List D) := bnd f fun x => lft ((seqD x).map enumD)
theorem tok_enX (h : Tok (RX K) K W t f) : Tok (RI K) K W (iEnX K t) (iEn f) := by
  refine Tok.bind (t2 := fun x σ H R => ∃ a, x = .ref a ∧ ((∃ xs, SqL K H a xs) ∧ R (Ite K a) H ∨ (∃ xs, SqT K H a xs) ∧ R (Itet K a) H)) h fun x v F S H r σ q z E rx hz Q P => ?_
  cases x with
  | h n => cases hz
  | d x =>
    have rx' : Rep K S x v := rx
    cases x with
    | lst ds =>
      cases hz
      rw [Rep] at rx'
      obtain ⟨a, vs, rfl, h1, h2⟩ := rx'
      exact ⟨a, rfl, .inl ⟨⟨vs, SqL.of (E.sub _ _ h1)⟩, P _ S H r (Ex.refl _) (Rle.refl _) E (wlk_enL (SqL.of h1) h2)⟩⟩
    | seq ds =>
      cases hz
      rw [Rep] at rx'
      obtain ⟨a, vs, rfl, h1, h2⟩ := rx'
      exact ⟨a, rfl, .inl ⟨⟨vs, Evl.ex_l E.sub h1⟩, P _ S H r (Ex.refl _) (Rle.refl _) E (wlk_enL h1 h2)⟩⟩
    | tup ds =>
      cases hz
      rw [Rep] at rx'
      obtain ⟨a, vs, rfl, h1, h2⟩ := rx'
      exact ⟨a, rfl, .inr ⟨⟨vs, Evl.ex_t E.sub h1⟩, P _ S H r (Ex.refl _) (Rle.refl _) E (wlk_enT h1 h2)⟩⟩
    | _ => cases hz
theorem is_enum (hm : X.mg "enumerate" = none) (h : IsE X W e t f) (hg : Gl X "enumerate" := by rfl) (hs : starEach [e] X.env = (false, eval e X.env) :: starEach [] X.env := by rfl) :
    IsI X W (.Tuple elts kk tpos) (.Call (.Name "enumerate" p) [e] [] pos) (iEnX X.K t) (iEn f) := ⟨pi_enX h.pe hg hm hs, tok_enX h.ok⟩
end
end Den

namespace Den
open PySem PySem.Spec PyProof.Rows L2
open Evl (Ex)
/-! ### what a denotation comes to: loops -/
theorem loopD_inv {a : XV → Stt → Option Stt} {g : MS} (I : List D → Stt → Prop) (h : ∀ d ds q, I (d :: ds) q → ∃ q1 q2, a (.d d) q = some q1 ∧ g q1 = some (.nx q2) ∧ I ds q2) :
    ∀ (ds : List D) (q : Stt), I ds q → ∃ q', loopD a g ds q = some (.nx q') ∧ I [] q'
  | [], q, i => ⟨q, rfl, i⟩
  | d :: ds, q, i => by
    obtain ⟨q1, q2, h1, h2, h3⟩ := h d ds q i
    obtain ⟨q', h4, h5⟩ := loopD_inv I h ds q2 h3
    exact ⟨q', by simp only [loopD, h1, h2, h4], h5⟩
/-- a loop that carries one thing, folded -/
theorem loopD_fold {b : Type} {a : XV → Stt → Option Stt} {g : MS} (St : b → Stt → Prop) (f : b → D → b) (ok : D → Prop) (h : ∀ x d q, ok d → St x q → ∃ q1 q2, a (.d d) q = some q1 ∧ g q1 = some (.nx q2) ∧ St (f x d) q2) :
    ∀ (ds : List D) (x : b) (q : Stt), (∀ d ∈ ds, ok d) → St x q → ∃ q', loopD a g ds q = some (.nx q') ∧ St (ds.foldl f x) q'
  | [], x, q, _, i => ⟨q, rfl, i⟩
  | d :: ds, x, q, o, i => by
    obtain ⟨q1, q2, h1, h2, h3⟩ := h x d q (o d (by simp)) i
    obtain ⟨q', h4, h5⟩ := loopD_fold St f ok h ds (f x d) q2 (fun e m => o e (by simp [m])) h3
    exact ⟨q', by simp only [loopD, h1, h2, h4], h5⟩
theorem sFor_ok {fi : ME (List D)} {a : XV → Stt → Option Stt} {g : MS} {q q1 q2 : Stt} {ds : List D} (h1 : fi q = some (.ok ds, q1)) (h2 : loopD a g ds q1 = some (.nx q2)) : sFor fi a g q = some (.nx q2) := by
  simp only [sFor, sOf, h1, h2]
theorem sSeq_ok {g1 g2 : MS} {q q1 : Stt} (h : g1 q = some (.nx q1)) : sSeq g1 g2 q = g2 q1 := by
  simp only [sSeq, h]
theorem bnd_of {a b : Type} {f : ME a} {g : a → ME b} {q q1 : Stt} {x : a} {z : Option (Rs b)} (h : f q = some (.ok x, q1)) (k : g x q1 = z) : bnd f g q = z := by
  rw [bnd_ok h, k]
theorem eOp_ok {g : D → D → Option D} {f1 f2 : ME XV} {q q1 q2 : Stt} {x y z : D} (h1 : f1 q = some (.ok (.d x), q1)) (h2 : f2 q1 = some (.ok (.d y), q2)) (h3 : g x y = some z) : eOp g f1 f2 q = some (.ok (.d z), q2) := by
  simp only [eOp, bnd, h1, h2, op2, h3, lft, Option.map]
theorem eIx_ok {f1 f2 : ME XV} {q q1 q2 : Stt} {x y z : XV} (h1 : f1 q = some (.ok x, q1)) (h2 : f2 q1 = some (.ok y, q2)) (h3 : ixX q2.w x y = some z) : eIx f1 f2 q = some (.ok z, q2) := by
  simp only [eIx, bnd, h1, h2, h3, Option.map]
theorem ixX_d {w : List WO} {x y z : D} (h : ixD x y = some z) : ixX w (.d x) (.d y) = some (.d z) := by
  simp only [ixX, h, Option.map]
theorem eIx_d {f1 f2 : ME XV} {q q1 q2 : Stt} {x y z : D} (h1 : f1 q = some (.ok (.d x), q1)) (h2 : f2 q1 = some (.ok (.d y), q2)) (h3 : ixD x y = some z) : eIx f1 f2 q = some (.ok (.d z), q2) :=
  eIx_ok h1 h2 (ixX_d h3)
theorem aCons_ok {f : ME XV} {fa : ME (List XV)} {q q1 q2 : Stt} {x : XV} {xs : List XV} (h1 : f q = some (.ok x, q1)) (h2 : fa q1 = some (.ok xs, q2)) : aCons f fa q = some (.ok (x :: xs), q2) := by
  simp only [aCons, bnd, h1, h2, ret]
theorem eCB_ok {g : List D → Option D} {fa : ME (List XV)} {q q1 : Stt} {xs : List XV} {ds : List D} {z : D} (h : fa q = some (.ok xs, q1)) (h1 : allD xs = some ds) (h2 : g ds = some z) : eCB g fa q = some (.ok (.d z), q1) := by
  simp only [eCB, bnd, h, h1, h2, lft, Option.bind, Option.map]
theorem eCB1_ok {g : List D → Option D} {f : ME XV} {q q1 : Stt} {x z : D} (h : f q = some (.ok (.d x), q1)) (h2 : g [x] = some z) : eCB g (aCons f aNil) q = some (.ok (.d z), q1) :=
  eCB_ok (aCons_ok h rfl) rfl h2
theorem eCB2_ok {g : List D → Option D} {f1 f2 : ME XV} {q q1 q2 : Stt} {x y z : D} (h : f1 q = some (.ok (.d x), q1)) (h1 : f2 q1 = some (.ok (.d y), q2)) (h2 : g [x, y] = some z) : eCB g (aCons f1 (aCons f2 aNil)) q = some (.ok (.d z), q2) :=
  eCB_ok (aCons_ok h (aCons_ok h1 rfl)) rfl h2
theorem eCall_ok {n : Nat} {G : Fn} {fa : ME (List XV)} {q q1 : Stt} {xs : List XV} {z : XV} {w : List WO} (h : fa q = some (.ok xs, q1)) (hn : xs.length = n) (h2 : G xs q1.w = some (.ok z, w)) : eCall n G fa q = some (.ok z, { q1 with w := w }) := by
  simp only [eCall, bnd, h, if_pos hn, h2]
theorem eCall_w {n : Nat} {G : Fn} {fa : ME (List XV)} {q q1 : Stt} {xs : List XV} {z : XV} (h : fa q = some (.ok xs, q1)) (hn : xs.length = n) (h2 : G xs q1.w = some (.ok z, q1.w)) : eCall n G fa q = some (.ok z, q1) := eCall_ok h hn h2
theorem eL_ok {f : ME (List D)} {q q1 : Stt} {ds : List D} (h : f q = some (.ok ds, q1)) : eL f q = some (.ok (.d (.lst ds)), q1) := by
  simp only [eL, bnd, h, ret]
theorem lLst_ok {fa : ME (List XV)} {q q1 : Stt} {xs : List XV} {ds : List D} (h : fa q = some (.ok xs, q1)) (h1 : allD xs = some ds) (h2 : ds.length ≤ big) : lLst fa q = some (.ok ds, q1) := by
  simp only [lLst, bnd, h, h1, lft, Option.bind, if_pos h2]
theorem eTup_ok {fa : ME (List XV)} {q q1 : Stt} {xs : List XV} {ds : List D} (h : fa q = some (.ok xs, q1)) (h1 : allD xs = some ds) (h2 : ds.length ≤ big) : eTup fa q = some (.ok (.d (.tup ds)), q1) := by
  simp only [eTup, bnd, h, h1, lft, Option.bind, if_pos h2]
theorem eUn_ok {g : D → Option D} {f : ME XV} {q q1 : Stt} {x z : D} (h : f q = some (.ok (.d x), q1)) (h2 : g x = some z) : eUn g f q = some (.ok (.d z), q1) := by
  simp only [eUn, bnd, h, lft, h2, Option.map]
theorem tOf_ok {f : ME XV} {q q1 : Stt} {b : Bool} (h : f q = some (.ok (.d (.bl b)), q1)) : tOf f q = some (.ok b, q1) := by
  simp only [tOf, bnd, h, lft, toB]
theorem iOf_ok {f : ME XV} {q q1 : Stt} {x : XV} {ds : List D} (h : f q = some (.ok x, q1)) (h2 : seqD x = some ds) : iOf f q = some (.ok ds, q1) := by
  simp only [iOf, bnd, h, lft, h2]
theorem sOf_ok {a : Type} {f : ME a} {k : a → Stt → Option Fl} {q q1 : Stt} {x : a} (h : f q = some (.ok x, q1)) : sOf f k q = k x q1 := by
  simp only [sOf, h]
theorem sAsg_ok {f : ME XV} {a : XV → Stt → Option Stt} {q q1 q2 : Stt} {x : XV} (h : f q = some (.ok x, q1)) (h2 : a x q1 = some q2) : sAsg f a q = some (.nx q2) := by
  simp only [sAsg, sOf, h, h2, Option.map]
theorem sDrop_ok {f : ME XV} {q q1 : Stt} {x : XV} (h : f q = some (.ok x, q1)) : sDrop f q = some (.nx q1) := by
  simp only [sDrop, sOf, h]
theorem sRet_ok {f : ME XV} {q q1 : Stt} {x : XV} (h : f q = some (.ok x, q1)) : sRet f q = some (.rt x q1) := by
  simp only [sRet, sOf, h]
theorem sIf_t {gt : ME Bool} {g1 g2 : MS} {q q1 : Stt} {z : Option Fl} (h : gt q = some (.ok true, q1)) (k : g1 q1 = z) : sIf gt g1 g2 q = z := by
  simp only [sIf, sOf, h]
  exact k
theorem sIf_f {gt : ME Bool} {g1 g2 : MS} {q q1 : Stt} {z : Option Fl} (h : gt q = some (.ok false, q1)) (k : g2 q1 = z) : sIf gt g1 g2 q = z := by
  simp only [sIf, sOf, h]
  exact k
theorem sSeq_to {g1 g2 : MS} {q q1 : Stt} {z : Option Fl} (h : g1 q = some (.nx q1)) (k : g2 q1 = z) : sSeq g1 g2 q = z := by
  simp only [sSeq, h, k]
theorem fnG_rt {n : Nat} {g : MS} {xs : List XV} {w : List WO} {x : XV} {q : Stt} (h : g (fnQ n xs w) = some (.rt x q)) : fnG n g xs w = some (.ok x, q.w) := by
  simp only [fnG, h]
theorem eM1V_ok {g : List D → D → Option (D × List D)} {i : Nat} {f : ME XV} {q q1 : Stt} {d0 ds es : List D} {x y : D} (h0 : q.sl[i]? = some (.ol d0)) (h : f q = some (.ok (.d x), q1)) (h1 : q1.sl[i]? = some (.ol ds)) (h2 : g ds x = some (y, es)) :
    eM1V g i f q = some (.ok (.d y), { q1 with sl := q1.sl.set i (.ol es) }) := by
  simp only [eM1V, h0, bnd, h, h1, h2, Option.map]
theorem gApp_ok {ds : List D} {d : D} (h : ds.length < big) : gApp ds d = some (.non, ds ++ [d]) := by
  rw [gApp, if_pos h]
theorem sSetL_ok {f : ME (List D)} {i : Nat} {q q1 : Stt} {ds : List D} (h : f q = some (.ok ds, q1)) (hi : i < q1.sl.length) : sSetL f i q = some (.nx { q1 with sl := q1.sl.set i (.ol ds) }) := by
  simp only [sSetL, sOf, h, if_pos hi]
theorem rng_in {n : Nat} (hn : n ≤ 100000) : -(2 ^ 62) ≤ (n : Int) ∧ (n : Int) < 2 ^ 62 := by
  have h62 : (2 : Int) ^ 62 = 4611686018427387904 := by decide
  rw [h62]
  exact ⟨by omega, by omega⟩
theorem rng1_ok {n : Nat} (hn : n ≤ 100000) : rng1 [.d (.int n)] = some (iota 0 n) := by
  have e : rng1 [.d (.int n)] = if -(2 ^ 62) ≤ (n : Int) ∧ (n : Int) < 2 ^ 62 then some (iota 0 (Int.toNat n)) else none := by
    unfold rng1
    rfl
  rw [e, if_pos (rng_in hn), Int.toNat_natCast]
theorem rng_len {e : ME XV} {q q1 : Stt} {n : Nat} (h : e q = some (.ok (.d (.int n)), q1)) (hn : n ≤ 100000) : (bnd (aCons e aNil) fun xs => lft (rng1 xs)) q = some (.ok (iota 0 n), q1) := by
  have e1 : lft (rng1 [.d (.int n)]) q1 = some (.ok (iota 0 n), q1) := by
    rw [rng1_ok hn]
    rfl
  exact bnd_of (g := fun xs => lft (rng1 xs)) (aCons_ok h rfl) e1
/-- a comprehension whose parts leave all else as it is -/
theorem lcLoop_map {vs : List Nat} {a : XV → Stt → Option Stt} {gt : ME Bool} {fe : ME XV} {F : D → D} {q : Stt} : ∀ (ds acc : List D), (∀ d ∈ ds, ∃ q1 q2 q3, a (.d d) q = some q1 ∧ gt q1 = some (.ok true, q2) ∧ fe q2 = some (.ok (.d (F d)), q3) ∧ wipeQ q3 vs = q) →
    acc.length + ds.length ≤ big → lcLoop vs a gt fe ds acc q = some (acc ++ ds.map F, q)
  | [], acc, _, _ => by simp [lcLoop]
  | d :: ds, acc, h, hl => by
    obtain ⟨q1, q2, q3, h1, h2, h3, h4⟩ := h d (by simp)
    have hl' : acc.length < big := by simp at hl; omega
    have ih := lcLoop_map (vs := vs) (a := a) (gt := gt) (fe := fe) (F := F) (q := q) ds (acc ++ [F d]) (fun e m => h e (by simp [m])) (by simp at hl ⊢; omega)
    simp only [lcLoop, h1, h2, h3, h4, if_pos hl', ih]
    simp
theorem lLc_map {vs : List Nat} {fi : ME (List D)} {a : XV → Stt → Option Stt} {gt : ME Bool} {fe : ME XV} (F : D → D) {q q0 : Stt} {ds : List D} (hf : fi q = some (.ok ds, q0)) (hl : ds.length ≤ big)
    (h : ∀ d ∈ ds, ∃ q1 q2 q3, a (.d d) (wipeQ q0 vs) = some q1 ∧ gt q1 = some (.ok true, q2) ∧ fe q2 = some (.ok (.d (F d)), q3) ∧ wipeQ q3 vs = wipeQ q0 vs) (hb : backQ q0 (wipeQ q0 vs) vs = q0) :
    lLc vs fi a gt fe q = some (.ok (ds.map F), q0) := by
  have e := lcLoop_map (vs := vs) (a := a) (gt := gt) (fe := fe) (F := F) (q := wipeQ q0 vs) ds [] h (by simpa using hl)
  simp only [lLc, bnd, hf, e, hb, List.nil_append]
theorem lLc_pure {vs : List Nat} {fi : ME (List D)} {a : XV → Stt → Option Stt} {fe : ME XV} (F : D → D) {q q0 : Stt} {ds : List D} (hf : fi q = some (.ok ds, q0)) (hl : ds.length ≤ big) (hb : backQ q0 (wipeQ q0 vs) vs = q0)
    (h : ∀ d ∈ ds, ∃ q1, a (.d d) (wipeQ q0 vs) = some q1 ∧ wipeQ q1 vs = wipeQ q0 vs ∧ fe q1 = some (.ok (.d (F d)), q1)) :
    lLc vs fi a (ret true) fe q = some (.ok (ds.map F), q0) :=
  lLc_map F hf hl (fun d m => let ⟨q1, h1, h2, h3⟩ := h d m; ⟨q1, q1, q1, h1, rfl, h3, h2⟩) hb
/-- a comprehension that tells of each item only that -/
theorem lcLoop_rel {vs : List Nat} {a : XV → Stt → Option Stt} {gt : ME Bool} {fe : ME XV} (R : D → Prop) (P : Stt → Prop) : ∀ (ds acc : List D) (q : Stt), (∀ d ∈ ds, ∀ q, P q → ∃ q1 q2 q3 x, a (.d d) q = some q1 ∧ gt q1 = some (.ok true, q2) ∧ fe q2 = some (.ok (.d x), q3) ∧ R x ∧ P (wipeQ q3 vs)) →
    acc.length + ds.length ≤ big → P q → ∃ xs q', lcLoop vs a gt fe ds acc q = some (acc ++ xs, q') ∧ xs.length = ds.length ∧ (∀ x ∈ xs, R x) ∧ P q'
  | [], acc, q, _, _, p => ⟨[], q, by simp [lcLoop], rfl, by simp, p⟩
  | d :: ds, acc, q, h, hl, p => by
    obtain ⟨q1, q2, q3, x, h1, h2, h3, h4, h5⟩ := h d (by simp) q p
    have hl' : acc.length < big := by simp at hl; omega
    obtain ⟨xs, q', e, n, r, p'⟩ := lcLoop_rel (vs := vs) (a := a) (gt := gt) (fe := fe) R P ds (acc ++ [x]) (wipeQ q3 vs) (fun e m => h e (by simp [m])) (by simp at hl ⊢; omega) h5
    refine ⟨x :: xs, q', ?_, by simp [n], by simpa using ⟨h4, r⟩, p'⟩
    simp only [lcLoop, h1, h2, h3, if_pos hl', e]
    simp
theorem lLc_rel {vs : List Nat} {fi : ME (List D)} {a : XV → Stt → Option Stt} {gt : ME Bool} {fe : ME XV} (R : D → Prop) (P : Stt → Prop) {q q0 : Stt} {ds : List D} (hf : fi q = some (.ok ds, q0)) (hl : ds.length ≤ big)
    (h : ∀ d ∈ ds, ∀ q, P q → ∃ q1 q2 q3 x, a (.d d) q = some q1 ∧ gt q1 = some (.ok true, q2) ∧ fe q2 = some (.ok (.d x), q3) ∧ R x ∧ P (wipeQ q3 vs)) (h0 : P (wipeQ q0 vs)) :
    ∃ xs q', lLc vs fi a gt fe q = some (.ok xs, backQ q0 q' vs) ∧ xs.length = ds.length ∧ (∀ x ∈ xs, R x) ∧ P q' := by
  obtain ⟨xs, q', e, n, r, p'⟩ := lcLoop_rel (vs := vs) (a := a) (gt := gt) (fe := fe) R P ds [] (wipeQ q0 vs) h (by simpa using hl) h0
  refine ⟨xs, q', ?_, n, r, p'⟩
  simp only [lLc, bnd, hf, e, List.nil_append]
/-! ### lists of numbers -/
def il (l : List Int) : List D := l.map .int
theorem il_len {l : List Int} : (il l).length = l.length := by simp [il]
theorem atI_nat {α : Type} {xs : List α} {i : Int} (h0 : 0 ≤ i) (h1 : i < xs.length) : atI xs i = xs[i.toNat]? := by
  have e : ixN xs.length i = some i.toNat := by
    unfold ixN
    simp [h0, h1]
  simp [atI, e]
theorem atI_il {l : List Int} {i : Int} (h0 : 0 ≤ i) (h1 : i < l.length) : atI (il l) i = some (.int (l.getD i.toNat 0)) := by
  rw [atI_nat h0 (by simpa [il_len] using h1)]
  have h2 : i.toNat < l.length := by omega
  simp [il, h2]
theorem intsD_il {l : List Int} : intsD (il l) = some l := by
  induction l with
  | nil => rfl
  | cons x l ih =>
    show (intsD (il l)).map (x :: ·) = _
    rw [ih]
    rfl
end Den

namespace Den
open PySem PySem.Spec PyProof.Rows L2
open Evl (Ex)
/-! ### type(x); whether two classes are one -/
def tyE : D → Option String
  | .seq _ => some "list"
  | d => tyD d
section
variable {K : PySem.W.Frag} {F S H : Hp} {r : List Addr} {σ : L2.St} {q : Stt}
theorem tyB_of (E : Ex S H) {x : D} {v : V} {a : String} (h : tyE x = some a) (rx : RepH K S H x v) : TyB K H v a := by
  cases x with
  | non => cases h; rw [rh_non rx]; exact .non
  | bl b => cases h; rw [rh_bl rx]; exact .bl b
  | int b => cases h; rw [rh_int rx]; exact .int b
  | str b => cases h; rw [rh_str rx]; exact .str b
  | tup ds =>
    cases h
    obtain ⟨a, vs, rfl, h1, _⟩ := rh_tup E rx
    exact .tup h1
  | lst ds =>
    cases h
    obtain ⟨a, vs, rfl, h1, _⟩ := rx
    exact .lst (SqL.of h1)
  | seq ds =>
    cases h
    have rx' : Rep K S (.seq ds) v := rx
    rw [Rep] at rx'
    obtain ⟨a, vs, rfl, h1, _⟩ := rx'
    exact .lst (Evl.ex_l E h1)
  | dic ks ds =>
    cases h
    obtain ⟨a, vs, rfl, h1, _⟩ := rx
    exact .dK h1
  | _ => cases h
def gType : List D → Option D
  | [x] => (tyE x).map .ty
  | _ => none
theorem rc_type : RCok K (rTyp K) gType := by
  intro F S H r σ q ds z vs E rp hz Q k
  unfold gType at hz
  split at hz
  · rename_i x
    cases e : tyE x with
    | none => rw [e] at hz; cases hz
    | some a =>
      rw [e] at hz
      cases hz
      obtain ⟨v, rfl, h⟩ := one_rep (F := H) rp
      exact ⟨v, a, rfl, tyB_of E.sub e h, k _ S H (Ex.refl _) E rp_ty⟩
  · cases hz
def gIsT : D → D → Option D
  | .ty a, .ty b => some (.bl (decide (a = b)))
  | _, _ => none
def gNotT : D → D → Option D
  | .ty a, .ty b => some (.bl (!decide (a = b)))
  | _, _ => none
theorem r2_isT : R2ok K (fun x y H Q => ∃ a b, x = .ty a ∧ y = .ty b ∧ Q (.bl (decide (a = b))) H) gIsT := by
  intro F S H r σ q x y z vx vy E rx ry hz Q k
  unfold gIsT at hz
  split at hz
  · cases hz
    exact ⟨_, _, rh_ty rx, rh_ty ry, k _ S H (Ex.refl _) E rp_bl⟩
  · cases hz
theorem r2_notT : R2ok K rNT gNotT := by
  intro F S H r σ q x y z vx vy E rx ry hz Q k
  unfold gNotT at hz
  split at hz
  · cases hz
    exact ⟨_, _, rh_ty rx, rh_ty ry, k _ S H (Ex.refl _) E rp_bl⟩
  · cases hz
/-! ### tuple * int -/
def gMulX : D → D → Option D
  | .tup ds, .int k => if ds ≠ [] ∧ 2 ≤ k ∧ k ≤ 1000 ∧ ds.length ≤ 1000 then some (.tup (List.replicate k.toNat ds).flatten) else none
  | x, y => gMul x y
theorem rep_times {ds : List D} {vs : List V} (h : RepL K S ds vs) : ∀ n : Nat, RepL K S (List.replicate n ds).flatten (List.replicate n vs).flatten
  | 0 => RepL.nil
  | n + 1 => by
    rw [List.replicate_succ, List.replicate_succ, List.flatten_cons, List.flatten_cons]
    exact h.append (rep_times h n)
def rMulX (K : PySem.W.Frag) : R2 := r2Or (rI CMul fun i j => .int (i * j)) (rRepT K)
theorem r2_mulX : R2ok K (rMulX K) gMulX := by
  intro F S H r σ q x y z vx vy E rx ry hz Q k
  unfold gMulX at hz
  split at hz
  · rename_i ds i
    obtain ⟨⟨h0, h1, h2, h3⟩, e⟩ := ifs hz
    subst e
    obtain ⟨a, vs, rfl, h4, h4', h5⟩ := rh_tup E.sub rx
    refine .inr ⟨a, i, vs, rfl, rh_int ry, h4, fun e => h0 ?_, h1, h2, by rw [← h5.length]; exact h3, fun p hp => ?_⟩
    · have hl := h5.length
      rw [e] at hl
      exact List.eq_nil_of_length_eq_zero hl
    · obtain ⟨S', ex, E', rp⟩ := new_tup E hp (rep_times h5 i.toNat)
      exact k _ S' _ ex E' rp
  · exact .inl (r2_mul F S H r σ q _ _ z vx vy E rx ry hz Q k)
end
section
variable {X : Cx} {W : WX} {e e1 e2 e3 : Expr} {t t1 t2 t3 : TE} {f f1 f2 f3 : ME XV} {pos p : Pos} {K : PySem.W.Frag} {fl : ME (List D)}
theorem op_mulX : OpR X (binaryOp .Mult) (rMulX X.K) := OpR.or op_mul op_repT
theorem is_mulX (h1 : IsE X W e1 t1 f1) (h2 : IsE X W e2 t2 f2) : IsE X W (.BinOp e1 .Mult e2 pos) (tOp (rMulX X.K) t1 t2) (eOp gMulX f1 f2) := is_op op_mulX r2_mulX h1 h2
theorem is_type (hm : X.mg "type" = none) (h : IsE X W e t f) (hg : Gl X "type" := by rfl) (he : starEach [e] X.env = (false, eval e X.env) :: starEach [] X.env := by rfl) : IsE X W (.Call (.Name "type" p) [e] [] pos) (tCB (rTyp X.K) (tCons t tNil)) (eCB gType (aCons f aNil)) :=
  is_cty call_type1 rc_type hg hm (by decide +kernel) (is_acons h is_anil he) (he := he)
/-- a number of the module -/
theorem is_glob {x : Str} {i : Int} (hm : ∃ u, X.mg x = some (.int i u)) (hg : Gl X x := by rfl) (hd : (x == ("__debug__" : Str)) = false := by decide) : IsE X W (.Name x pos) (tC (.int i)) (eC (.int i)) := by
  obtain ⟨u, hm⟩ := hm
  exact ⟨pe_glob hg hm ⟨_, rfl⟩ hd, tok_c fun S => rp_int⟩
/-! ### a < b < c -/
def eChain (g g' : D → D → Option D) (f1 f2 f3 : ME XV) : ME XV := bnd f1 fun x => bnd f2 fun y => bnd (lft ((op2 g x y).bind toB)) fun b => if b then bnd f3 fun w => lft (op2 g' y w) else ret (.d (.bl false))
theorem op2_d {g : D → D → Option D} {x y z : XV} (h : op2 g x y = some z) : ∃ a b c, x = .d a ∧ y = .d b ∧ z = .d c ∧ g a b = some c := by
  cases x with
  | h n => cases h
  | d a =>
    cases y with
    | h n => cases h
    | d b =>
      have h' : (g a b).map XV.d = some z := h
      cases e : g a b with
      | none => rw [e] at h'; cases h'
      | some c =>
        rw [e] at h'
        cases h'
        exact ⟨a, b, c, rfl, rfl, rfl, e⟩
theorem tok_chain {r2 r2' : R2} {g g' : D → D → Option D} (hr : R2ok K r2 g) (hr' : R2ok K r2' g') (h1 : Tok (RX K) K W t1 f1) (h2 : Tok (RX K) K W t2 f2) (h3 : Tok (RX K) K W t3 f3) : Tok (RX K) K W (tChain r2 r2' t1 t2 t3) (eChain g g' f1 f2 f3) := by
  intro F S H r σ q z E hz Q P
  show t1 σ H (fun x H1 => t2 σ H1 fun y H2 => r2 x y H2 fun z H3 => ∃ k, z = V.bl k ∧ (if k = true then t3 σ H3 fun w' H4 => r2' y w' H4 Q else Q (.bl false) H3))
  refine run_at (rep2 := RX K) h1 E hz P fun x v S1 H1 r1 q1 ex1 k1 E1 rx hz P => ?_
  refine run_at (rep2 := RX K) h2 E1 hz P fun y u S2 H2 r2 q2 ex2 k2 E2 ry hz P => ?_
  rw [bnd_eq] at hz
  cases e1 : op2 g x y with
  | none => rw [e1] at hz; cases hz
  | some w =>
    obtain ⟨a, b, c, rfl, rfl, rfl, hg⟩ := op2_d e1
    rw [e1] at hz
    have rx2 : Rep K S2 a v := Rep.mono ex2 _ _ rx
    have ry2 : Rep K S2 b u := ry
    refine hr F S2 H2 r2 σ q2 a b c v u E2 (Rep.toH E2.sub rx2) (Rep.toH E2.sub ry2) hg _ fun v' S3 H3 ex3 E3 rz => ?_
    cases c with
    | bl k =>
      rw [Rep] at rz
      subst rz
      refine ⟨k, rfl, ?_⟩
      cases k with
      | true =>
        have hz' : bnd f3 (fun w => lft (op2 g' (.d b) w)) q2 = some z := hz
        refine iteT ?_
        refine run_at (rep2 := RX K) h3 E3 hz' (P.mono ex3 (Rle.refl _)) fun w vw S4 H4 r4 q4 ex4 k4 E4 rw4 hz P => ?_
        cases e2 : op2 g' (.d b) w with
        | none => rw [e2] at hz; cases hz
        | some w2 =>
          obtain ⟨a', b', c', e3, rfl, rfl, hg'⟩ := op2_d e2
          cases e3
          rw [e2] at hz
          cases hz
          have ry4 : Rep K S4 b u := Rep.mono (ex3.trans ex4) _ _ ry2
          have rw5 : Rep K S4 b' vw := rw4
          exact hr' F S4 H4 r4 σ q4 b b' c' u vw E4 (Rep.toH E4.sub ry4) (Rep.toH E4.sub rw5) hg' _ fun v5 S5 H5 ex5 E5 r5 => P _ S5 H5 r4 ex5 (Rle.refl _) E5 r5
      | false =>
        have hz' : some ((Except.ok (XV.d (.bl false)), q2) : Rs XV) = some z := hz
        cases hz'
        exact iteF (P _ S3 H3 r2 ex3 (Rle.refl _) E3 (show Rep K S3 (.bl false) _ from rp_bl))
    | _ => cases hz
theorem is_chain {op op' : CmpOp} {r2 r2' : R2} {g g' : D → D → Option D} (ho : OpR X (compareOp op) r2) (hr : R2ok X.K r2 g) (ho' : OpR X (compareOp op') r2') (hr' : R2ok X.K r2' g') (h1 : IsE X W e1 t1 f1) (h2 : IsE X W e2 t2 f2) (h3 : IsE X W e3 t3 f3)
    (hm : lastMarks [op, op'] [e2, e3] = false := by with_unfolding_all rfl) : IsE X W (.Compare e1 [op, op'] [e2, e3] pos) (tChain r2 r2' t1 t2 t3) (eChain g g' f1 f2 f3) := ⟨pe_chain ho ho' h1.pe h2.pe h3.pe hm, tok_chain hr hr' h1.ok h2.ok h3.ok⟩
theorem is_tchain {op op' : CmpOp} {r2 r2' : R2} {g g' : D → D → Option D} (ho : OpR X (compareOp op) r2) (hr : R2ok X.K r2 g) (ho' : OpR X (compareOp op') r2') (hr' : R2ok X.K r2' g') (h1 : IsE X W e1 t1 f1) (h2 : IsE X W e2 t2 f2) (h3 : IsE X W e3 t3 f3)
    (hm : lastMarks [op, op'] [e2, e3] = false := by with_unfolding_all rfl) : IsT X W (.Compare e1 [op, op'] [e2, e3] pos) (tTest (tChain r2 r2' t1 t2 t3)) (tOf (eChain g g' f1 f2 f3)) := ⟨pt_chain ho ho' h1.pe h2.pe h3.pe hm, tok_test (tok_chain hr hr' h1.ok h2.ok h3.ok)⟩
end
end Den

namespace Den
open PySem PySem.Spec PyProof.Rows L2
open Evl (Ex)
/-! ### defs that may raise -/
def fnX (n : Nat) (g : MS) : Fn := fun xs w => match g (fnQ n xs w) with
  | some (.nx q) => some (.ok (.d .non), q.w)
  | some (.rt x q) => some (.ok x, q.w)
  | some (.ex c q) => some (.error c, q.w)
  | _ => none
section
variable {P : Program} {w : World} {K : PySem.W.Frag} {mg : Str → Option Value} {base : Heap}
theorem fn_okX {x qual : Str} {st : Stmt} {f : Addr} {fd : FuncData} {N ps : List Str} {k : Nat} {g : MS} (F : Fun K x qual st f fd) (S : FnScope N ps (defScope st))
    (hb : ∀ (cdv : Value) (A : Around) (outer : List PySem.Env) (s : Shared) (H : Hp) (E : XK), Room k (A.deeper (envOfC qual (defScope st) s.heap.objs.size f cdv)) → ∃ t, IsB (cxOf (L2.CX P w) P w K mg base N qual (defScope st) f cdv A outer s H E) (fun c d _ H' => E c d H') (defBody st) t g) :
    FnOk P w K mg base (L2.CX P w) (k + 1) f fd ps (spF K ps.length (fnX N.length g)) := by
  refine F.okX S (fun vs H Q E h => h.1) (fun cdv A outer s H vs Q E hr h => ?_)
  obtain ⟨hl, F', S', r, xs, w', z, E0, rx, hg, hP⟩ := h
  obtain ⟨t, hB⟩ := hb cdv A outer s H E hr
  refine ⟨t, hB.ps, ?_⟩
  have E1 := E0.enter N.length rx
  unfold fnX at hg
  cases eg : g (fnQ N.length xs w') with
  | none => rw [eg] at hg; cases hg
  | some fl =>
    rw [eg] at hg
    cases fl with
    | nx q =>
      cases hg
      exact hB.ok F' S' H r _ _ _ E1 eg _ fun σ2 S2 H2 r2 e2 k2 E2 => hP .non S2 H2 r2 e2 k2 E2.low (show Rep K S2 .non .non from rp_non)
    | rt x q =>
      cases hg
      exact hB.ok F' S' H r _ _ _ E1 eg _ fun v σ2 S2 H2 r2 e2 k2 E2 rx2 => hP v S2 H2 r2 e2 k2 E2.low rx2
    | bk q => cases hg
    | ct q => cases hg
    | ex c q =>
      cases hg
      exact hB.ok F' S' H r _ _ _ E1 eg _ fun σ2 S2 H2 r2 e2 k2 E2 => hP S2 H2 r2 e2 k2 E2.low
end
/-- a def of the text that may raise -/
structure DefX (P : Program) (w : World) (K : PySem.W.Frag) (mg : Str → Option Value) (base : Heap) (name : Str) (k n : Nat) (G : Fn) : Prop where
  ex : ∃ (f : Addr) (fd : FuncData) (ps : List Str), mg name = some (.ref f) ∧ PySem.W.keepIn K (.ref f) = true ∧ Binds K fd ps [] ∧ FnOk P w K mg base (L2.CX P w) k f fd ps (spF K n G)
section
variable {X : Cx} {W : WX} {e e1 e2 : Expr} {es : List Expr} {ta : TA} {fa : ME (List XV)} {pos p : Pos} {t t1 t2 : TE} {f f1 f2 : ME XV}
theorem is_callDX {name : Str} {k n : Nat} {G : Fn} (d : DefX X.prog X.w X.K X.mg X.base name k n G) (hr : Room k X.A) (tk : Takes X W) (ha : IsA X W (e :: es) ta fa) (hg : Gl X name := by rfl) (hdb : (name == ("__debug__" : Str)) = false := by decide)
    (he : starEach (e :: es) X.env = (false, eval e X.env) :: starEach es X.env := by rfl) (hpl : (backTo pos (starEach es X.env)).any (·.1) = false := by rfl) : IsE X W (.Call (.Name name p) (e :: es) [] pos) (tCallS (spF X.K n G) (WE W) ta) (eCall n G fa) := by
  obtain ⟨f, fd, ps, hm, hk, hb, F⟩ := d.ex
  exact is_callX F hr hg hm hk hb tk ha hdb he hpl
theorem def_okX {P : Program} {w : World} {K : PySem.W.Frag} {mg : Str → Option Value} {base : Heap} {x qual : Str} {st : Stmt} {fA : Addr} {fd : FuncData} {N ps : List Str} {k n : Nat} {g : MS} (F : Fun K x qual st fA fd) (hm : mg x = some (.ref fA)) (b : Binds K fd ps []) (S : FnScope N ps (defScope st)) (hn : ps.length = n)
    (hb : ∀ (cdv : Value) (A : Around) (outer : List PySem.Env) (s : Shared) (H : Hp) (E : XK), Room k (A.deeper (envOfC qual (defScope st) s.heap.objs.size fA cdv)) → ∃ t, IsB (cxOf (L2.CX P w) P w K mg base N qual (defScope st) fA cdv A outer s H E) (fun c d _ H' => E c d H') (defBody st) t g) :
    DefX P w K mg base x (k + 1) n (fnX N.length g) := ⟨⟨fA, fd, ps, hm, F.kp, b, by rw [← hn]; exact fn_okX F S hb⟩⟩
/-- an exception class of the text, over ValueError, without an __init__ of its own -/
structure XCls (K : PySem.W.Frag) (mg : Str → Option Value) (x : Str) (C : Addr) : Prop where
  gC : mg x = some (.ref C)
  xP : PySem.W.excIn K C [.type "ValueError", .type "Exception", .type "BaseException", .type "object"] "ValueError.__new__" = true
  kP : PySem.W.keepIn K (.ref C) = true
  bP : PySem.W.subIn K (.ref C) (.type "BaseException") = some true
  tP : PySem.W.typeIn K (.ref C) = some (.type "type")
def sRaise (c : Value) : MS := fun q => some (.ex c q)
theorem is_raise {x m : Str} {j : Nat} {p2 pos2 : Pos} {C : Addr} (T : XCls X.K X.mg x C) (tk : Takes X W) (hc : X.calm = true := by rfl) (hg : Gl X x := by rfl) (hdb : (x == ("__debug__" : Str)) = false := by decide) :
    IsS X W (.Raise (some (.Call (.Name x p) [.Constant (.str m) j p2] [] pos2)) none pos) (fun _ σ H => W (.ref C) none σ H) (sRaise (.ref C)) := by
  refine ⟨ps_raise hc tk (pmk_own PySem.F.excBase_ValueError T.xP T.gC T.kP (raises_own T.bP T.tP) hg hdb), fun F S H r σ q z E hz d P => ?_⟩
  cases hz
  exact P σ S H r (Ex.refl _) (Rle.refl _) E
end
end Den

namespace Den
open PySem PySem.Spec PyProof.Rows L2
open Evl (Ex)
/-! ### len(set(t)), t a tuple of whole numbers -/
def uniq : List Int → List Int
  | [] => []
  | x :: xs => if x ∈ xs then uniq xs else x :: uniq xs
theorem uniq_mem : ∀ (l : List Int) (k : Int), k ∈ uniq l ↔ k ∈ l
  | [], k => Iff.rfl
  | x :: xs, k => by
    unfold uniq
    by_cases h : x ∈ xs
    · rw [if_pos h, uniq_mem xs k, List.mem_cons]
      exact ⟨.inr, fun z => z.elim (fun e => e ▸ h) id⟩
    · rw [if_neg h, List.mem_cons, List.mem_cons, uniq_mem xs k]
theorem uniq_nd : ∀ l : List Int, (uniq l).Nodup
  | [] => List.Pairwise.nil
  | x :: xs => by
    unfold uniq
    by_cases h : x ∈ xs
    · rw [if_pos h]
      exact uniq_nd xs
    · rw [if_neg h]
      exact List.nodup_cons.mpr ⟨fun z => h ((uniq_mem xs x).mp z), uniq_nd xs⟩
theorem nd_le : ∀ {a b : List Int}, a.Nodup → (∀ k ∈ a, k ∈ b) → a.length ≤ b.length
  | [], _, _, _ => Nat.zero_le _
  | x :: a, b, hn, hs => by
    have hx : x ∈ b := hs x (by simp)
    obtain ⟨h1, h2⟩ := List.nodup_cons.mp hn
    have ih := nd_le (b := b.erase x) h2 fun k hk => (List.mem_erase_of_ne (by intro e; subst e; exact h1 hk)).mpr (hs k (by simp [hk]))
    rw [List.length_erase_of_mem hx] at ih
    have hp := List.length_pos_of_mem hx
    simp
    omega
theorem uniq_len {a l : List Int} (hn : a.Nodup) (h : ∀ k, k ∈ l ↔ k ∈ a) : a.length = (uniq l).length :=
  Nat.le_antisymm (nd_le hn fun k hk => (uniq_mem l k).mpr ((h k).mpr hk)) (nd_le (uniq_nd l) fun k hk => (h k).mp ((uniq_mem l k).mp hk))
def rLenSet (K : PySem.W.Frag) : V → Hp → VK → Prop := fun x H Q => ∃ (l : Addr) (ns : List Int), x = V.ref l ∧ SqT K H l (ns.map V.int) ∧ ns.length ≤ 1000 ∧ Q (.int (uniq ns).length) H
def tLenSet (K : PySem.W.Frag) (ta : TE) : TE := fun σ H Q => ta σ H fun x H1 => rLenSet K x H1 Q
section
variable {X : Cx} {W : WX} {e : Expr} {t : TE} {f : ME XV} {K : PySem.W.Frag} {p p2 q pos : Pos}
theorem pe_lenSetT (hc : X.calm = true) (hg : Gl X "len") (hm : X.mg "len" = none) (hg2 : Gl X "set") (hm2 : X.mg "set" = none) (h : PE X e t) (na : starEach [e] X.env = (false, eval e X.env) :: starEach [] X.env := by rfl) :
    PE X (.Call (.Name "len" p) [.Call (.Name "set" p2) [e] [] q] [] pos) (tLenSet X.K t) := by
  constructor
  intro pins s σ H Q I hq
  refine Call_ (ld_blt I hg hm PySem.boot_len (PyProof.Rows.callWith_builtin1 (PyProof.Rows.args_cons (Call_ (ld_blt I hg2 hm2 PyProof.Rows.boot_set (PyProof.Rows.callWith_type1 (PyProof.Rows.args_cons (thn (h.run pins s σ H _ I hq) fun v z ⟨x, H1, I1, rx, hx⟩ => PyProof.Rows.args_nil ?_) na) na rfl))) rfl) rfl rfl))
  obtain ⟨l, ns, rfl, hT, hb, hx⟩ := hx
  obtain rfl : v = Value.ref l := rx
  obtain ⟨its, rv, pt, _⟩ := I1.tuple hT
  have hi : IntsAre its.toArray.toList ns := ints_of_vals rv
  have hb' : ns.length + 1 < scanBound := by unfold scanBound; omega
  refine call_set_tupI ns (I1.ok.hd hc) (show z.heap.IsTuple l its.toArray from pt) hi hb' fun h2 tk c R _ k => PyProof.Rows.args_nil ?_
  obtain ⟨o, es, ep, tt, ho, hex, hd, _, nd, hmm, hs, hf, _, _, _⟩ := R
  have en : es.size = (uniq ns).length := by
    have e1 := uniq_len (l := ns) nd fun k => by rw [← hmm k, decide_eq_true_eq]
    rw [List.length_map, Array.length_toList] at e1
    exact e1
  have I2 : Inv X pins σ H1 { z with heap := h2, toks := tk } := I1.kept k
  exact call_len_set ho hex hd hf (by unfold scanBound at hs; omega) ⟨.int (uniq ns).length, H1, I2.tok _, ⟨_, by rw [en]⟩, hx⟩
def gLenSet : List D → Option D
  | [.tup ds] => (intsD ds).bind fun ns => if ns.length ≤ 1000 then some (.int (uniq ns).length) else none
  | _ => none
def eLenSet (f : ME XV) : ME XV := bnd f fun x => lft (match x with | .d d => (gLenSet [d]).map .d | _ => none)
theorem is_lenSet (hm : X.mg "len" = none) (hm2 : X.mg "set" = none) (h : IsE X W e t f) (hc : X.calm = true := by rfl) (hg : Gl X "len" := by rfl) (hg2 : Gl X "set" := by rfl) (na : starEach [e] X.env = (false, eval e X.env) :: starEach [] X.env := by rfl) :
    IsE X W (.Call (.Name "len" p) [.Call (.Name "set" p2) [e] [] q] [] pos) (tLenSet X.K t) (eLenSet f) := by
  refine ⟨pe_lenSetT hc hg hm hg2 hm2 h.pe na, Tok.bind (t2 := fun x σ H Q => rLenSet X.K x H Q) h.ok fun x v F S H r σ q z E rx hz Q P => ?_⟩
  cases x with
  | h n => cases hz
  | d x =>
    cases x with
    | tup ds =>
      have rx' : Rep X.K S (.tup ds) v := rx
      rw [Rep] at rx'
      obtain ⟨a, vs, rfl, h1, h2⟩ := rx'
      cases e1 : intsD ds with
      | none =>
        have hz' : lft (((intsD ds).bind fun ns => if ns.length ≤ 1000 then some (D.int (uniq ns).length) else none).map XV.d) q = some z := hz
        rw [e1] at hz'
        cases hz'
      | some ns =>
        have hz' : lft (((intsD ds).bind fun ns => if ns.length ≤ 1000 then some (D.int (uniq ns).length) else none).map XV.d) q = some z := hz
        rw [e1] at hz'
        by_cases hb : ns.length ≤ 1000
        · have hz2 : lft ((if ns.length ≤ 1000 then some (D.int (uniq ns).length) else none).map XV.d) q = some z := hz'
          rw [if_pos hb] at hz2
          cases hz2
          have ev := intsD_rep e1 h2
          subst ev
          exact ⟨a, ns, rfl, Evl.ex_t E.sub h1, hb, P _ S H r (Ex.refl _) (Rle.refl _) E (show Rep X.K S (.int _) _ from rp_int)⟩
        · have hz2 : lft ((if ns.length ≤ 1000 then some (D.int (uniq ns).length) else none).map XV.d) q = some z := hz'
          rw [if_neg hb] at hz2
          cases hz2
    | _ => cases hz
/-! ### xs + ys, a fresh list -/
theorem runL_at {a u : Type} {rep : RP a u} {te : TX u} {f : ME a} {g : a → ME (List D)} {F S H : Hp} {r : List Addr} {σ : L2.St} {q : Stt} {z : Rs (List D)} {Q : VK} {Q1 : u → Hp → Prop} (h : Tok rep K W te f) (E : Env K F S H r σ q) (hz : bnd f g q = some z) (P : PostL K W F S r σ z Q)
    (k : ∀ x v S1 H1 r1 q1, Ex S S1 → Rle r r1 → Env K F S1 H1 r1 σ q1 → rep S1 r1 x v → g x q1 = some z → PostL K W F S1 r1 σ z Q → Q1 v H1) : te σ H Q1 := by
  rw [bnd_eq] at hz
  cases e : f q with
  | none => rw [e] at hz; cases hz
  | some z1 =>
    obtain ⟨x, q1⟩ := z1
    rw [e] at hz
    cases x with
    | error c =>
      cases hz
      exact h F S H r σ q _ E e _ P
    | ok x =>
      refine h F S H r σ q _ E e _ fun v S1 H1 r1 e1 k1 E1 rp => k x v S1 H1 r1 q1 e1 k1 E1 rp hz ?_
      obtain ⟨x, q⟩ := z
      cases x with
      | error c => exact fun S2 H2 r2 e2 k2 E => P S2 H2 r2 (e1.trans e2) (k1.trans k2) E
      | ok x => exact fun p vs S2 H2 r2 e2 k2 hp E rp => P p vs S2 H2 r2 (e1.trans e2) (k1.trans k2) hp E rp
def catL : XV → XV → Option (List D)
  | .d (.lst xs), .d (.lst ys) => if xs.length + ys.length ≤ big then some (xs ++ ys) else none
  | _, _ => none
def lCat (f1 f2 : ME XV) : ME (List D) := bnd f1 fun x => bnd f2 fun y => lft (catL x y)
theorem is_lcat {e1 e2 : Expr} {t1 t2 : TE} {f1 f2 : ME XV} (h1 : IsE X W e1 t1 f1) (h2 : IsE X W e2 t2 f2) : IsL X W (.BinOp e1 .Add e2 pos) (tOp rCat t1 t2) (lCat f1 f2) := by
  refine ⟨pe_op op_cat h1.pe h2.pe, fun F S H r σ q z E hz Q P => ?_⟩
  show t1 σ H (fun x H1 => t2 σ H1 fun y H2 => rCat x y H2 Q)
  refine runL_at h1.ok E hz P fun x v S1 H1 r1 q1 ex1 k1 E1 rx hz P => ?_
  refine runL_at h2.ok E1 hz P fun y u S2 H2 r2 q2 ex2 k2 E2 ry hz P => ?_
  have rx2 : XRep X.K S2 r2 x v := XRep.mono ex2 k2 rx
  unfold catL at hz
  cases x with
  | h n => cases hz
  | d x =>
    cases y with
    | h n => cases x <;> cases hz
    | d y =>
      cases x with
      | lst xs =>
        cases y with
        | lst ys =>
          have hz' : lft (if xs.length + ys.length ≤ big then some (xs ++ ys) else none) q2 = some z := hz
          by_cases hb : xs.length + ys.length ≤ big
          · rw [if_pos hb] at hz'
            cases hz'
            have a1 : Rep X.K S2 (.lst xs) v := rx2
            have a2 : Rep X.K S2 (.lst ys) u := ry
            rw [Rep] at a1 a2
            obtain ⟨a, vs, rfl, g1, g2⟩ := a1
            obtain ⟨b, us, rfl, g3, g4⟩ := a2
            exact ⟨a, b, vs, us, rfl, rfl, E2.sub _ _ g1, E2.sub _ _ g3, by rw [← g2.length, ← g4.length]; exact big_line hb, fun p hp => P p _ S2 _ r2 (Ex.refl _) (Rle.refl _) (E2.newF hp) (E2.add hp (.lst (vs ++ us))) (g2.append g4)⟩
          · rw [if_neg hb] at hz'
            cases hz'
        | _ => cases hz
      | _ => cases hz
end
end Den

namespace Den
open PySem PySem.Spec PyProof.Rows L2
open Evl (Ex)
/-! ### try: body, several clauses, each with a name or without -/
abbrev Sui := Addr → Value → Option Addr → TS
/-- where a clause's name stands: behind its suite the name is gone -/
def gone (D : Ends) : Option Nat → Ends
  | none => D
  | some i => { nx := fun τ H => D.nx (τ.set i none) H, rt := D.rt, bk := fun τ H => D.bk (τ.set i none) H, ct := fun τ H => D.ct (τ.set i none) H }
def here (σ : L2.St) (a : Addr) : Option Nat → L2.St
  | none => σ
  | some i => σ.set i (some (.ref a))
def wHs (K : PySem.W.Frag) (Wo : WX) (D : Ends) : List (Value × Option Nat × Sui) → WX
  | [] => Wo
  | (c, o, ts) :: r => fun cls d σ H => ∃ m, PySem.W.exmOne K cls c = some m ∧ (m = true → ∀ a, H a = none → ts a cls d (gone D o) (here σ a o) H) ∧ (m = false → wHs K Wo D r cls d σ H)
inductive HOk (X : Cx) : List ExceptHandler → List (Value × Option Nat × Sui) → Prop
  | nil : HOk X [] []
  | cons {x : Str} {c : Value} {ts : Sui} {b : Stmt} {bs : List Stmt} {np hp : Pos} {hs : List ExceptHandler} {l : List (Value × Option Nat × Sui)} {nm : Option Str} {o : Option Nat}
      (hn : (nm = none ∧ o = none) ∨ ∃ n i, nm = some n ∧ o = some i ∧ X.N[i]? = some n ∧ X.env.kindOf n = some .local) (hc : Names X x c)
      (su : ∀ (a : Addr) (oe : Obj) (cls : Value) (d : Option Addr) (pn : List (Addr × Obj)), Zc cls d oe → (∃ vs, oe.data = .fields vs) → PSs (X.suite a ((a, oe) :: pn)) (b :: bs) (ts a cls d)) (r : HOk X hs l) :
      HOk X (.ExceptHandler (some (.Name x np)) nm (b :: bs) hp :: hs) ((c, o, ts) :: l)
section
variable {X : Cx} {body : List Stmt} {h0 : ExceptHandler} {hds : List ExceptHandler} {l : List (Value × Option Nat × Sui)} {pos : Pos} {tb : WX → TS} {Wo : WX}
theorem ps_try_h (hst : X.stack = X.env :: X.outer) (hfr : X.env.frame = some X.env.locals) (hN : X.N.Nodup) (tk : Takes X Wo)
    (hb : ∀ (W : WX) (pn : List (Addr × Obj)) (xe : Value → Shared → Prop), Takes (X.tr pn xe) W → PassesOwn (model X.prog X.w) X.A X.env xe → PSs (X.tr pn xe) body (tb W)) (hh : HOk X (h0 :: hds) l) :
    PS X (.Try body (h0 :: hds) [] [] pos) (fun D σ H => tb (wHs X.K Wo D l) D σ H) := by
  constructor
  intro pins s σ H D I h
  have ok := I.ok
  have fr2 : X.A.frames = some (X.env :: X.outer) := ok.frames.trans (congrArg some hst)
  refine wpAny_Try_except (wpAny_mono ((hb (wHs X.K Wo D l) (X.pn ++ pins) (fun e z => wpAny (model X.prog X.w) X.A (noteFrame e X.env) (fun _ z2 => wpAny (model X.prog X.w) X.A (setFlight e none) (fun _ z3 => wpAny (model X.prog X.w) X.A (handleBy e X.env (h0 :: hds)) (SP X pins D) X.xe z3) X.xe z2) X.xe z) (fun u z g => ?_) PassesOwn.looking).run [] s σ H D (I.toTry _) h) (fun f z g => ?_) (fun _ _ g => g))
  · obtain ⟨a, B, sI, p2, τ, G, cls, d, rfl, J0, nb, up, sky, na, os, ag, w⟩ := g
    have J : Inv X pins τ G sI := J0.ofTry ok
    refine Sky.land Zc.steady fr2 hfr (show Sky B (X.env :: X.outer) a (Zc cls d) X.env.locals z.heap from hst ▸ sky) fun hL fl upL => ?_
    have JL : Inv X pins τ G { z with heap := hL } := J.landed nb fl.1 (up.trans upL) os ag
    obtain ⟨oe, vs, he, hz, hd⟩ := fl.there
    have nfr : a ∉ frs (X.env :: X.outer) := fun hm => by
      obtain ⟨_, o2, e2, no⟩ := fl.2.2.1.mem hm
      rw [he] at e2
      cases e2
      exact no _ hd
    have nL : a ≠ X.env.locals := fun q => nfr (List.mem_filterMap.mpr ⟨X.env, List.mem_cons_self, by rw [hfr, q]⟩)
    have nF : a ∉ X.fs := fun hm => by
      obtain ⟨e, k, q⟩ := List.mem_filterMap.mp hm
      exact nfr (List.mem_filterMap.mpr ⟨e, List.mem_cons_of_mem _ k, q⟩)
    have SL := JL.suite he hd na nL nF
    have go : ∀ {hs : List ExceptHandler} {l : List (Value × Option Nat × Sui)}, HOk X hs l → wHs X.K Wo D l cls d τ G → wpAny (model X.prog X.w) X.A (handleBy (.ref a) X.env hs) (SP X pins D) X.xe { z with heap := hL } := by
      intro hs l k
      induction k with
      | nil =>
        intro w
        obtain ⟨_, _, _, oe1, vs1, T, oT, tt, he1, _, hd1, h1, _⟩ := id fl
        have fin : wpAny (model X.prog X.w) X.A (setFlight (.ref a) X.env.frame) (fun _ z4 => wpAny (model X.prog X.w) X.A (throw (.ref a) : Sem Flow) (SP X pins D) X.xe z4) X.xe { z with heap := hL } := by
          rw [hfr]
          exact HandSPX.setFlight_upZ fl fun h4 k4 up4 => wpAny_throw (tk _ _ ⟨a, B, sI, pins, τ, G, cls, d, rfl, J, nb, (up.trans upL).trans up4, .inr (.inr (by rw [hst]; exact k4)), na, os, ag, w⟩)
        refine wpAny_handleBy_nil ?_
        unfold PySem.passOn
        refine wpAny_bind (wpAny_field he1 hd1 h1 ?_)
        rw [if_neg (show ¬ ((Value.ref T == Value.none) = true) from by simp)]
        first | exact wpAny_bind (wpAny_pure (wpAny_bind fin)) | exact wpAny_bind fin
      | @cons x c ts b bs np hp hs2 l2 nm o hn hc su r ih =>
        intro w
        obtain ⟨m, hm, yes, no⟩ := w
        have LT : PySem.W.Looks (model X.prog X.w) hL (typeOf (.ref a)) cls := fun A Q E s k q => wpAny_typeOf_ref (k _ _ he) (by rw [hz.1]; exact q)
        have LM := PySem.W.exm_one (M := model X.prog X.w) JL.kIn LT hm
        have test : ∀ {Q : Value → Shared → Prop} {E : Value → Shared → Prop}, Q c { z with heap := hL } → wpAny (model X.prog X.w) (X.A.mark (some (.ref a))) (eval (.Name x np) X.env) Q E { z with heap := hL } := fun {Q E} q => by
          obtain ⟨hg, hdb, k1 | ⟨k1, k2, k3⟩⟩ := hc
          · exact ld_glob (X := X.suite a ((a, oe) :: (X.pn ++ pins))) SL hg k1 q hdb
          · exact ld_blt (X := X.suite a ((a, oe) :: (X.pn ++ pins))) SL hg k1 k2 q k3 hdb
        refine wpAny_handleBy_cons (codeAny_handlers_test ?_) (by intro q; cases q)
        refine test (LM.here ?_)
        cases m with
        | false => exact (show wpAny _ X.A (handleBy (.ref a) X.env hs2) _ _ _ from ih (no rfl))
        | true =>
          rcases hn with ⟨rfl, rfl⟩ | ⟨n, i, rfl, rfl, hi, hl⟩
          · refine codeAny_handlers_suite (HandSPX.lands_againZ fl fun h4 fl4 up4 => ?_)
            have J4 : Inv X pins τ G { z with heap := h4 } := J.landed nb fl4.1 ((up.trans upL).trans up4) os ag
            obtain ⟨oe4, vs4, he4, hz4, hd4⟩ := fl4.there
            refine wpAny_mono ((su a oe4 cls d (X.pn ++ pins) hz4 ⟨_, hd4⟩).run [] _ _ G _ (J4.suite he4 hd4 na nL nF) (yes rfl a na)) (fun f z6 g => ?_) (fun _ _ q => False.elim q)
            cases f with
            | next => obtain ⟨τ6, G6, S6, q6⟩ := g; exact ⟨_, _, S6.unsuite ok, q6⟩
            | brk => obtain ⟨τ6, G6, S6, q6⟩ := g; exact ⟨_, _, S6.unsuite ok, q6⟩
            | cont => obtain ⟨τ6, G6, S6, q6⟩ := g; exact ⟨_, _, S6.unsuite ok, q6⟩
            | ret u => obtain ⟨v6, τ6, G6, S6, r6, q6⟩ := g; exact ⟨_, _, _, S6.unsuite ok, r6, q6⟩
          · refine codeAny_handlers_suite_as (HandSPX.lands_againZ fl fun h4 fl4 up4 => ?_)
            have J4 : Inv X pins τ G { z with heap := h4 } := J.landed nb fl4.1 ((up.trans upL).trans up4) os ag
            obtain ⟨oe4, vs4, he4, hz4, hd4⟩ := fl4.there
            refine store_ok (X := X.suite a ((a, oe4) :: (X.pn ++ pins))) (v := .ref a) (J4.suite he4 hd4 na nL nF) hN hi (.inl hl) rfl (fun z5 S5 => ?_) (.inr hl)
            refine wpAny_mono ((su a oe4 cls d (X.pn ++ pins) hz4 ⟨_, hd4⟩).run [] z5 _ G _ S5 (yes rfl a na)) (fun f z6 g => ?_) (fun _ _ q => False.elim q)
            have out : ∀ {τ6 : L2.St} {G6 : Hp} {Q : Shared → Prop}, Inv (X.suite a ((a, oe4) :: (X.pn ++ pins))) [] τ6 G6 z6 → (∀ z7, Inv X pins (τ6.set i none) G6 z7 → Q z7) → wpAny (model X.prog X.w) X.A (do bindName X.env n .none; unbindBehindTheSuite X.env n hp) (fun _ z7 => Q z7) X.xe z6 := fun {τ6 G6 Q} S6 hq => gone_ok (S6.unsuite ok) hN hi hl hq
            cases f with
            | next => obtain ⟨τ6, G6, S6, q6⟩ := g; exact out S6 fun z7 J7 => ⟨_, _, J7, q6⟩
            | brk => obtain ⟨τ6, G6, S6, q6⟩ := g; exact out S6 fun z7 J7 => ⟨_, _, J7, q6⟩
            | cont => obtain ⟨τ6, G6, S6, q6⟩ := g; exact out S6 fun z7 J7 => ⟨_, _, J7, q6⟩
            | ret u => obtain ⟨v6, τ6, G6, S6, r6, q6⟩ := g; exact out S6 fun z7 J7 => ⟨_, _, _, J7, r6, q6⟩
    exact go hh w
  · cases f with
    | next => obtain ⟨τ, G, J, q⟩ := g; exact wpAny_execs_nil ⟨τ, G, J.ofTry ok, q⟩
    | brk => obtain ⟨τ, G, J, q⟩ := g; exact ⟨τ, G, J.ofTry ok, q⟩
    | cont => obtain ⟨τ, G, J, q⟩ := g; exact ⟨τ, G, J.ofTry ok, q⟩
    | ret u => obtain ⟨v, τ, G, J, r, q⟩ := g; exact ⟨v, τ, G, J.ofTry ok, r, q⟩
/-- some wish that takes what W takes -/
theorem takes_all (hst : X.stack = X.env :: X.outer) (hfr : X.env.frame = some X.env.locals) (pn : List (Addr × Obj)) (W : WX) : ∃ xe : Value → Shared → Prop, Takes (X.tr pn xe) W ∧ PassesOwn (model X.prog X.w) X.A X.env xe := by
  refine ⟨fun e z => wpAny (model X.prog X.w) X.A (noteFrame e X.env) (fun _ z2 => wpAny (model X.prog X.w) X.A (setFlight e none) (fun _ _ => True) (fun _ _ => False) z2) (fun _ _ => False) z, fun u z g => ?_, PassesOwn.looking⟩
  obtain ⟨a, B, sI, p2, τ, G, cls, d, rfl, J0, nb, up, sky, na, os, ag, w⟩ := g
  have ok : X.Ok := J0.ok.ofTry
  have fr2 : X.A.frames = some (X.env :: X.outer) := ok.frames.trans (congrArg some hst)
  exact Sky.land Zc.steady fr2 hfr (show Sky B (X.env :: X.outer) a (Zc cls d) X.env.locals z.heap from hst ▸ sky) fun hL fl upL => trivial
end
/-! ### the same, over data -/
def goneQ (q : Stt) : Option Nat → Stt
  | none => q
  | some i => { q with sl := q.sl.set i .un }
def hereQ (q : Stt) (a : Addr) : Option Nat → Stt
  | none => q
  | some i => { q with sl := q.sl.set i (.dat (.ob a)) }
def goneF (o : Option Nat) : Fl → Option Fl
  | .nx q => some (.nx (goneQ q o))
  | .rt x q => some (.rt x (goneQ q o))
  | .bk q => some (.bk (goneQ q o))
  | .ct q => some (.ct (goneQ q o))
  | .ex _ _ => none
abbrev DH := (Value → Option Bool) × Option Nat × (Addr → Value → MS)
def hdl (c : Value) (q : Stt) : List DH → Option Fl
  | [] => some (.ex c q)
  | (m, o, su) :: r => match m c with
    | none => none
    | some true => (su 0 c (hereQ q 0 o)).bind (goneF o)
    | some false => hdl c q r
def sTry (g : MS) (hs : List DH) : MS := fun q => match g q with
  | some (.ex c q1) => hdl c q1 hs
  | z => z
inductive IsHs (X : Cx) : List ExceptHandler → List (Value × Option Nat × Sui) → List DH → Prop
  | nil : IsHs X [] [] []
  | cons {x : Str} {c : Value} {cs : List Addr} {ts : Addr → Addr → TS} {b : Stmt} {bs : List Stmt} {np hp : Pos} {hs : List ExceptHandler} {l : List (Value × Option Nat × Sui)} {dl : List DH} {nm : Option Str} {o : Option Nat} {m : Value → Option Bool} {su : Addr → Value → MS}
      (hn : (nm = none ∧ o = none) ∨ ∃ n i, nm = some n ∧ o = some i ∧ X.N[i]? = some n ∧ X.env.kindOf n = some .local) (hc : Names X x c)
      (hm : ∀ v k, m v = some k → PySem.W.exmOne X.K v c = some k ∧ (k = true → ∃ D ∈ cs, v = .ref D))
      (hsu : ∀ D ∈ cs, ∀ (a : Addr) (oe : Obj) (pn : List (Addr × Obj)), Zc (.ref D) none oe → (∃ vs, oe.data = .fields vs) → IsB (X.suite a ((a, oe) :: pn)) W0 (b :: bs) (ts D a) (su a (.ref D)))
      (ind : ∀ a v q, (su a v (hereQ q a o)).bind (goneF o) = (su 0 v (hereQ q 0 o)).bind (goneF o)) (r : IsHs X hs l dl) :
      IsHs X (.ExceptHandler (some (.Name x np)) nm (b :: bs) hp :: hs) ((c, o, fun a cls d Dn σ H => ∃ D, ∃ _ : D ∈ cs, cls = .ref D ∧ d = none ∧ ts D a Dn σ H) :: l) ((m, o, su) :: dl)
section
variable {X : Cx} {body : List Stmt} {h0 : ExceptHandler} {hds : List ExceptHandler} {l : List (Value × Option Nat × Sui)} {dl : List DH} {pos : Pos} {tb : WX → TS} {W : WX} {g : MS}
theorem IsHs.hok {hs : List ExceptHandler} (h : IsHs X hs l dl) : HOk X hs l := by
  induction h with
  | nil => exact .nil
  | cons hn hc hm hsu ind r ih =>
    refine .cons hn hc (fun a oe cls d pn hz hf => ⟨fun pins s σ H Dn I h => ?_⟩) ih
    obtain ⟨D, hD, rfl, rfl, h⟩ := h
    exact (hsu D hD a oe pn hz hf).ps.run pins s σ H Dn I h
theorem hdl_ok {hs : List ExceptHandler} (h : IsHs X hs l dl) : ∀ {F S H : Hp} {r : List Addr} {σ : L2.St} {q : Stt} {c : Value} {z : Fl} {D : Ends}, Env X.K F S H r σ q → hdl c q dl = some z → PostS X.K W F S r z D → wHs X.K W D l c none σ H := by
  induction h with
  | nil =>
    intro F S H r σ q c z D E hz P
    cases hz
    exact P σ S H r (Ex.refl _) (Rle.refl _) E
  | @cons x c0 cs ts b bs np hp hs l dl nm o m su hn hc hm hsu ind rr ih =>
    intro F S H r σ q c z D E hz P
    unfold hdl at hz
    cases em : m c with
    | none => rw [em] at hz; cases hz
    | some k =>
      rw [em] at hz
      obtain ⟨h1, h2⟩ := hm c k em
      refine ⟨k, h1, fun hk a ha => ?_, fun hk => ?_⟩
      · subst hk
        obtain ⟨C, hC, rfl⟩ := h2 rfl
        refine ⟨C, hC, rfl, rfl, ?_⟩
        have hz' : (su 0 (.ref C) (hereQ q 0 o)).bind (goneF o) = some z := hz
        rw [← ind a] at hz'
        cases es : su a (.ref C) (hereQ q a o) with
        | none => rw [es] at hz'; cases hz'
        | some z1 =>
          rw [es] at hz'
          have hz2 : goneF o z1 = some z := hz'
          have EH : Env X.K F S H r (here σ a o) (hereQ q a o) := by
            rcases hn with ⟨_, rfl⟩ | ⟨n, i, _, rfl, hi, _⟩
            · exact E
            · by_cases hl : i < q.sl.length
              · exact E.putD i (show Rep X.K S (.ob a) (.ref a) from by rw [Rep]) hl
              · obtain ⟨ow, e⟩ := E
                have e1 : (here σ a (some i)) = σ := List.set_eq_of_length_le (by rw [e.len]; omega)
                have e2 : (hereQ q a (some i)) = q := by
                  show Stt.mk (q.sl.set i _) q.w = q
                  rw [List.set_eq_of_length_le (by omega)]
                rw [e1, e2]
                exact ⟨ow, e⟩
          refine (hsu C hC a ⟨.ref C, none, .fields #[], #[]⟩ [] ⟨rfl, rfl⟩ ⟨_, rfl⟩).ok F S H r _ _ z1 EH es _ ?_
          rcases hn with ⟨_, rfl⟩ | ⟨n, i, _, rfl, hi, _⟩
          · cases z1 with
            | ex c q => cases hz2
            | nx q2 => cases hz2; exact P
            | rt x q2 => cases hz2; exact P
            | bk q2 => cases hz2; exact P
            | ct q2 => cases hz2; exact P
          · cases z1 with
            | ex c q => cases hz2
            | nx q2 => cases hz2; exact fun σ2 S2 H2 r2 e2 k2 E2 => P _ S2 H2 r2 e2 k2 (E2.un i none)
            | rt x q2 => cases hz2; exact fun v σ2 S2 H2 r2 e2 k2 E2 rx => P v _ S2 H2 r2 e2 k2 (E2.un i none) rx
            | bk q2 => cases hz2; exact fun σ2 S2 H2 r2 e2 k2 E2 => P _ S2 H2 r2 e2 k2 (E2.un i none)
            | ct q2 => cases hz2; exact fun σ2 S2 H2 r2 e2 k2 E2 => P _ S2 H2 r2 e2 k2 (E2.un i none)
      · subst hk
        exact ih E hz P
theorem is_try (hN : X.N.Nodup) (tk : Takes X W)
    (hb : ∀ (W1 : WX) (pn : List (Addr × Obj)) (xe : Value → Shared → Prop), Takes (X.tr pn xe) W1 → PassesOwn (model X.prog X.w) X.A X.env xe → IsB (X.tr pn xe) W1 body (tb W1) g) (hh : IsHs X (h0 :: hds) l dl)
    (hst : X.stack = X.env :: X.outer := by rfl) (hfr : X.env.frame = some X.env.locals := by rfl) :
    IsS X W (.Try body (h0 :: hds) [] [] pos) (fun D σ H => tb (wHs X.K W D l) D σ H) (sTry g dl) := by
  refine ⟨ps_try_h hst hfr hN tk (fun W1 pn xe t p => (hb W1 pn xe t p).ps) hh.hok, fun F S H r σ q z E hz D P => ?_⟩
  obtain ⟨xe, t1, p1⟩ := takes_all hst hfr [] (wHs X.K W D l)
  have B := (hb (wHs X.K W D l) [] xe t1 p1).ok
  unfold sTry at hz
  cases eg : g q with
  | none => rw [eg] at hz; cases hz
  | some z1 =>
    rw [eg] at hz
    refine B F S H r σ q z1 E eg D ?_
    cases z1 with
    | nx q2 => cases hz; exact P
    | rt x q2 => cases hz; exact P
    | bk q2 => cases hz; exact P
    | ct q2 => cases hz; exact P
    | ex c q2 =>
      have hz' : hdl c q2 dl = some z := hz
      intro σ2 S2 H2 r2 e2 k2 E2
      refine hdl_ok hh E2 hz' ?_
      cases z with
      | nx q3 => exact fun σ3 S3 H3 r3 e3 k3 E3 => P σ3 S3 H3 r3 (e2.trans e3) (k2.trans k3) E3
      | bk q3 => exact fun σ3 S3 H3 r3 e3 k3 E3 => P σ3 S3 H3 r3 (e2.trans e3) (k2.trans k3) E3
      | ct q3 => exact fun σ3 S3 H3 r3 e3 k3 E3 => P σ3 S3 H3 r3 (e2.trans e3) (k2.trans k3) E3
      | rt x q3 => exact fun v σ3 S3 H3 r3 e3 k3 E3 rx => P v σ3 S3 H3 r3 (e2.trans e3) (k2.trans k3) E3 rx
      | ex c q3 => exact fun σ3 S3 H3 r3 e3 k3 E3 => P σ3 S3 H3 r3 (e2.trans e3) (k2.trans k3) E3
end
end Den

namespace Den
open PySem PySem.Spec PyProof.Rows L2
open Evl (Ex)
/-! ### isinstance(e, c), e the error that a clause holds -/
def eIsE (i : Nat) (a : Addr) (b : Bool) : ME XV := fun q => match q.sl[i]? with
  | some (.dat (.ob a2)) => if a2 = a then some (.ok (.d (.bl b)), q) else none
  | _ => none
section
variable {X : Cx} {W : WX}
theorem is_isE (i : Nat) {n cl : Str} {p p1 p2 pos : Pos} {a D : Addr} {oe : Obj} {pn : List (Addr × Obj)} {c : V} {cv : Value} {b : Bool} (C : ExcC X.K D) (hz : Zc (.ref D) none oe) (hf : ∃ vs, oe.data = .fields vs) (hcl : PE (X.suite a ((a, oe) :: pn)) (.Name cl p2) (tC c)) (hrel : ∀ u, RelV c u → u = cv)
    (hk : PySem.W.kitOne X.K (.ref D) cv = some b) (hm : X.mg "isinstance" = none) (hg : Gl (X.suite a ((a, oe) :: pn)) "isinstance" := by rfl) (hN : X.N[i]? = some n := by rfl)
    (hv : PE (X.suite a ((a, oe) :: pn)) (.Name n p1) (tVar i)) (he : starEach [.Name n p1, .Name cl p2] X.env = (false, eval (.Name n p1) X.env) :: starEach [.Name cl p2] X.env := by rfl) (he2 : starEach [.Name cl p2] X.env = (false, eval (.Name cl p2) X.env) :: starEach [] X.env := by rfl)
    (hpl : (backTo pos (starEach [.Name cl p2] X.env)).any (·.1) = false := by rfl) :
    IsE (X.suite a ((a, oe) :: pn)) W (.Call (.Name "isinstance" p) [.Name n p1, .Name cl p2] [] pos) (tCB (rIsE X.K D a) (tCons (tVar i) (tCons (tC c) tNil))) (eIsE i a b) := by
  refine ⟨pe_callB (call_isE C hz hf) hg hm (by decide +kernel) (pa_cons hv (pa_cons hcl pa_nil he2) he) (by decide) (by decide) he hpl, fun F S H r σ q z E hq Q P => ?_⟩
  unfold eIsE at hq
  cases es : q.sl[i]? with
  | none => rw [es] at hq; cases hq
  | some sl =>
    rw [es] at hq
    cases sl with
    | dat d =>
      cases d with
      | ob a2 =>
        by_cases ea : a2 = a
        · subst ea
          have hq' : (if a2 = a2 then some ((Except.ok (XV.d (.bl b)), q) : Rs XV) else none) = some z := hq
          rw [if_pos rfl] at hq'
          cases hq'
          have ev : eVar i q = some (.ok (.d (.ob a2)), q) := by simp only [eVar, es]
          refine tok_var (K := X.K) (W := W) i F S H r σ q _ E ev _ fun v S1 H1 r1 e1 k1 E1 rx => ?_
          have rx' : Rep X.K S1 (.ob a2) v := rx
          rw [Rep] at rx'
          subst rx'
          exact ⟨c, cv, b, rfl, hrel, hk, P _ S1 H1 r1 e1 k1 E1 (show Rep X.K S1 (.bl b) _ from rp_bl)⟩
        · have hq' : (if a2 = a then some ((Except.ok (XV.d (.bl b)), q) : Rs XV) else none) = some z := hq
          rw [if_neg ea] at hq'
          cases hq'
      | _ => cases hq
    | _ => cases hq
theorem isB_t {st : List Stmt} {t t' : TS} {g : MS} (h : IsB X W st t' g) (ht : t' = t) : IsB X W st t g := ht ▸ h
theorem hs_one {x n : Str} {c : Value} {D : Addr} {ts : Addr → TS} {b : Stmt} {bs : List Stmt} {np hp : Pos} {hs : List ExceptHandler} {l : List (Value × Option Nat × Sui)} {dl : List DH} {i : Nat} {m : Value → Option Bool} {su : Addr → MS}
    (hi : X.N[i]? = some n) (hl : X.env.kindOf n = some .local) (hc : Names X x c) (hm : ∀ v k, m v = some k → PySem.W.exmOne X.K v c = some k ∧ (k = true → v = .ref D))
    (hsu : ∀ (a : Addr) (oe : Obj) (pn : List (Addr × Obj)), Zc (.ref D) none oe → (∃ vs, oe.data = .fields vs) → IsB (X.suite a ((a, oe) :: pn)) W0 (b :: bs) (ts a) (su a))
    (ind : ∀ a q, (su a (hereQ q a (some i))).bind (goneF (some i)) = (su 0 (hereQ q 0 (some i))).bind (goneF (some i))) (r : IsHs X hs l dl) :
    ∃ l2, IsHs X (.ExceptHandler (some (.Name x np)) (some n) (b :: bs) hp :: hs) l2 ((m, some i, fun a _ => su a) :: dl) :=
  ⟨_, .cons (cs := [D]) (ts := fun _ a => ts a) (.inr ⟨n, i, rfl, rfl, hi, hl⟩) hc (fun v k h => ⟨(hm v k h).1, fun e => ⟨D, by simp, (hm v k h).2 e⟩⟩)
    (fun D2 hD a oe pn hz hf => by
      have e := List.mem_singleton.mp hD
      subst e
      exact hsu a oe pn hz hf) (fun a v q => ind a q) r⟩
theorem is_tryE {body : List Stmt} {h0 : ExceptHandler} {hds : List ExceptHandler} {dl : List DH} {pos : Pos} {tb : WX → TS} {g : MS} (hN : X.N.Nodup) (tk : Takes X W)
    (hb : ∀ (W1 : WX) (pn : List (Addr × Obj)) (xe : Value → Shared → Prop), Takes (X.tr pn xe) W1 → PassesOwn (model X.prog X.w) X.A X.env xe → IsB (X.tr pn xe) W1 body (tb W1) g) (hh : ∃ l, IsHs X (h0 :: hds) l dl)
    (hst : X.stack = X.env :: X.outer := by rfl) (hfr : X.env.frame = some X.env.locals := by rfl) :
    ∃ t, IsS X W (.Try body (h0 :: hds) [] [] pos) t (sTry g dl) := by
  obtain ⟨l, hh⟩ := hh
  exact ⟨_, is_try hN tk hb hh hst hfr⟩
theorem is_bconsE {st : Stmt} {sts : List Stmt} {t2 : TS} {g1 g2 : MS} (h1 : ∃ t, IsS X W st t g1) (h2 : IsB X W sts t2 g2) : ∃ t, IsB X W (st :: sts) t (sSeq g1 g2) := by
  obtain ⟨t, h1⟩ := h1
  exact ⟨_, is_bcons h1 h2⟩
theorem is_bconsX {st : Stmt} {sts : List Stmt} {t1 : TS} {g1 g2 : MS} (h1 : IsS X W st t1 g1) (h2 : ∃ t, IsB X W sts t g2) : ∃ t, IsB X W (st :: sts) t (sSeq g1 g2) := by
  obtain ⟨t, h2⟩ := h2
  exact ⟨_, is_bcons h1 h2⟩
theorem is_boneE {st : Stmt} {g1 : MS} (h1 : ∃ t, IsS X W st t g1) : ∃ t, IsB X W [st] t g1 := by
  obtain ⟨t, h1⟩ := h1
  exact ⟨_, is_bone h1⟩
theorem hs_add {h : ExceptHandler} {hs : List ExceptHandler} {dl : List DH} {e : DH} (h1 : ∀ l, IsHs X hs l dl → ∃ l2, IsHs X (h :: hs) l2 (e :: dl)) (h2 : ∃ l, IsHs X hs l dl) : ∃ l2, IsHs X (h :: hs) l2 (e :: dl) := by
  obtain ⟨l, h2⟩ := h2
  exact h1 l h2
theorem hs_nil : ∃ l, IsHs X [] l [] := ⟨_, .nil⟩
theorem eIsE_here {q : Stt} {i : Nat} (a : Addr) (b : Bool) (q2 : Stt) (e : q2 = hereQ q a (some i)) : eIsE i a b q2 = if i < q.sl.length then some (.ok (.d (.bl b)), q2) else none := by
  subst e
  by_cases h : i < q.sl.length
  · rw [if_pos h]
    have e1 : (hereQ q a (some i)).sl[i]? = some (.dat (.ob a)) := by
      show (q.sl.set i _)[i]? = _
      rw [List.getElem?_set_self h]
    unfold eIsE
    rw [e1]
    exact if_pos rfl
  · rw [if_neg h]
    have e1 : (hereQ q a (some i)).sl[i]? = none := by
      show (q.sl.set i _)[i]? = _
      rw [List.getElem?_eq_none]
      rw [List.length_set]
      omega
    unfold eIsE
    rw [e1]
theorem goneQ_here {q : Stt} {i : Nat} {a : Addr} : goneQ (hereQ q a (some i)) (some i) = goneQ q (some i) := by
  show Stt.mk ((q.sl.set i _).set i .un) q.w = Stt.mk (q.sl.set i .un) q.w
  rw [List.set_set]
end
/-- what is asked of the law itself -/
def spT (K : PySem.W.Frag) : Sp := fun vs H Q _ => ∃ (a : Addr) (ns : List Int), vs = [.ref a] ∧ SqL K H a (ns.map V.int) ∧ ∀ H', Q (.bl true) H'
theorem spT_of {K : PySem.W.Frag} {G : Fn} (h : ∀ ns : List Int, ∃ w', G [.d (.seq (ns.map .int))] [] = some (.ok (.d (.bl true)), w')) : ∀ vs H Q E, spT K vs H Q E → spF K 1 G vs H Q E := by
  intro vs H Q E k
  obtain ⟨a, ns, rfl, hS, q⟩ := k
  obtain ⟨w', hg⟩ := h ns
  refine ⟨rfl, fun _ => none, H, [], [.d (.seq (ns.map .int))], [], _, ⟨fun _ => none, ⟨Ex.refl _, fun a o h => (nomatch h), fun a x h => (nomatch h), rfl, fun i s h => (by simp at h), rfl, fun n o h => (by simp at h)⟩⟩, ⟨.ref a, [], rfl, ?_, rfl⟩, hg, fun v S' H' r' _ _ _ rx => ?_⟩
  · show Rep K H (.seq _) _
    rw [Rep]
    exact ⟨a, _, rfl, hS, repL_ints ns⟩
  · have rx' : Rep K S' (.bl true) v := rx
    rw [Rep] at rx'
    rw [rx']
    exact q H'
theorem exm_mk {K : PySem.W.Frag} {D C : Addr} {r : Bool} (b : PySem.W.subIn K (.ref C) (.type "BaseException") = some true) (i : PySem.W.isClsIn K C = true) (t : PySem.W.typeIn K (.ref C) = some (.type "type")) (s : PySem.W.subIn K (.ref D) (.ref C) = some r) : PySem.W.exmOne K (.ref D) (.ref C) = some r := by
  have i' : (PySem.W.clsIn K C).isSome = true := i
  unfold PySem.W.exmOne PySem.W.kitCls
  simp only [b, t, i', s]
  rfl
theorem kit_mk {K : PySem.W.Frag} {D C : Addr} (i : PySem.W.isClsIn K C = true) (t : PySem.W.typeIn K (.ref C) = some (.type "type")) (s : PySem.W.subIn K (.ref D) (.ref C) = some true) : PySem.W.kitOne K (.ref D) (.ref C) = some true := by
  have i' : (PySem.W.clsIn K C).isSome = true := i
  unfold PySem.W.kitOne
  by_cases e : (Value.ref D == Value.ref C) = true
  · rw [if_pos e]
  · rw [if_neg e]
    unfold PySem.W.kitCls
    simp only [t, i', s]
    rfl
theorem kit_mkT {K : PySem.W.Frag} {D : Addr} {T : String} {r : Bool} (m : PySem.W.kitMeta T = true) (s : PySem.W.subIn K (.ref D) (.type T) = some r) : PySem.W.kitOne K (.ref D) (.type T) = some r := by
  unfold PySem.W.kitOne
  rw [if_neg (show ¬ (Value.ref D == Value.type T) = true from by simp)]
  unfold PySem.W.kitCls
  simp only [m, s, if_true]
end Den

namespace Den
open PySem PySem.Spec PyProof.Rows L2
open Evl (Ex)
/-! ### what a denotation comes to: errors -/
theorem eCall_err {n : Nat} {G : Fn} {fa : ME (List XV)} {q q1 : Stt} {xs : List XV} {c : Value} {w : List WO} (h : fa q = some (.ok xs, q1)) (hn : xs.length = n) (h2 : G xs q1.w = some (.error c, w)) : eCall n G fa q = some (.error c, { q1 with w := w }) := by
  simp only [eCall, bnd, h, if_pos hn, h2]
theorem eCall_any {n : Nat} {G : Fn} {fa : ME (List XV)} {q q1 : Stt} {xs : List XV} {z : Except Value XV} (h : fa q = some (.ok xs, q1)) (hn : xs.length = n) (h2 : G xs q1.w = some (z, q1.w)) : eCall n G fa q = some (z, q1) := by
  simp only [eCall, bnd, h, if_pos hn, h2]
theorem sDrop_err {f : ME XV} {q q1 : Stt} {c : Value} (h : f q = some (.error c, q1)) : sDrop f q = some (.ex c q1) := by
  simp only [sDrop, sOf, h]
theorem sSeq_ex {g1 g2 : MS} {q q1 : Stt} {c : Value} (h : g1 q = some (.ex c q1)) : sSeq g1 g2 q = some (.ex c q1) := by
  simp only [sSeq, h]
theorem sSeq_rt {g1 g2 : MS} {q q1 : Stt} {x : XV} (h : g1 q = some (.rt x q1)) : sSeq g1 g2 q = some (.rt x q1) := by
  simp only [sSeq, h]
theorem fnX_nx {n : Nat} {g : MS} {xs : List XV} {w : List WO} {q : Stt} (h : g (fnQ n xs w) = some (.nx q)) : fnX n g xs w = some (.ok (.d .non), q.w) := by
  simp only [fnX, h]
theorem fnX_rt {n : Nat} {g : MS} {xs : List XV} {w : List WO} {q : Stt} {x : XV} (h : g (fnQ n xs w) = some (.rt x q)) : fnX n g xs w = some (.ok x, q.w) := by
  simp only [fnX, h]
theorem fnX_ex {n : Nat} {g : MS} {xs : List XV} {w : List WO} {q : Stt} {c : Value} (h : g (fnQ n xs w) = some (.ex c q)) : fnX n g xs w = some (.error c, q.w) := by
  simp only [fnX, h]
theorem fnG_nx {n : Nat} {g : MS} {xs : List XV} {w : List WO} {q : Stt} (h : g (fnQ n xs w) = some (.nx q)) : fnG n g xs w = some (.ok (.d .non), q.w) := by
  simp only [fnG, h]
theorem eChain_t {g g' : D → D → Option D} {f1 f2 f3 : ME XV} {q q1 q2 q3 : Stt} {x y z d : D} (h1 : f1 q = some (.ok (.d x), q1)) (h2 : f2 q1 = some (.ok (.d y), q2)) (h : g x y = some (.bl true)) (h3 : f3 q2 = some (.ok (.d z), q3)) (h' : g' y z = some d) : eChain g g' f1 f2 f3 q = some (.ok (.d d), q3) := by
  simp only [eChain, bnd, h1, h2, h, op2, lft, Option.map, Option.bind, toB, if_true, h3, h']
theorem eChain_f {g g' : D → D → Option D} {f1 f2 f3 : ME XV} {q q1 q2 : Stt} {x y : D} (h1 : f1 q = some (.ok (.d x), q1)) (h2 : f2 q1 = some (.ok (.d y), q2)) (h : g x y = some (.bl false)) : eChain g g' f1 f2 f3 q = some (.ok (.d (.bl false)), q2) := by
  simp only [eChain, bnd, h1, h2, h, op2, lft, Option.map, Option.bind, toB, ret]
  rfl
theorem tNot_ok {g : ME Bool} {q q1 : Stt} {b : Bool} (h : g q = some (.ok b, q1)) : tNotB g q = some (.ok (!b), q1) := by
  simp only [tNotB, bnd, h, ret]
theorem tAnd_f {g1 g2 : ME Bool} {q q1 : Stt} (h : g1 q = some (.ok false, q1)) : tAndB g1 g2 q = some (.ok false, q1) := by
  simp only [tAndB, bnd, h, ret]
  rfl
theorem tAnd_t {g1 g2 : ME Bool} {q q1 : Stt} {z : Option (Rs Bool)} (h : g1 q = some (.ok true, q1)) (k : g2 q1 = z) : tAndB g1 g2 q = z := by
  simp only [tAndB, bnd, h, ret]
  exact k
theorem tOr_t {g1 g2 : ME Bool} {q q1 : Stt} (h : g1 q = some (.ok true, q1)) : tOrB g1 g2 q = some (.ok true, q1) := by
  simp only [tOrB, bnd, h, ret]
  rfl
theorem tOr_f {g1 g2 : ME Bool} {q q1 : Stt} {z : Option (Rs Bool)} (h : g1 q = some (.ok false, q1)) (k : g2 q1 = z) : tOrB g1 g2 q = z := by
  simp only [tOrB, bnd, h, ret]
  exact k
theorem ifb_t {g f : ME XV} {q q1 : Stt} {z : Option (Rs XV)} (h : tOf g q = some (.ok true, q1)) (k : f q1 = z) : (bnd (tOf g) fun b => if b then f else ret (.d (.bl false))) q = z := by
  simp only [bnd, h]
  exact k
theorem ifb_f {g f : ME XV} {q q1 : Stt} (h : tOf g q = some (.ok false, q1)) : (bnd (tOf g) fun b => if b then f else ret (.d (.bl false))) q = some (.ok (.d (.bl false)), q1) := by
  simp only [bnd, h]
  rfl
theorem ifx_ok {g : ME Bool} {f1 f2 : ME XV} {q q1 : Stt} {b : Bool} {z : Option (Rs XV)} (h : g q = some (.ok b, q1)) (k : (if b then f1 else f2) q1 = z) : (bnd g fun b => if b then f1 else f2) q = z := by
  simp only [bnd, h]
  exact k
theorem notV_ok {g : ME XV} {q q1 : Stt} {b : Bool} (h : tOf g q = some (.ok b, q1)) : (bnd (tOf g) fun b => ret (XV.d (.bl (!b)))) q = some (.ok (.d (.bl (!b))), q1) := by
  simp only [bnd, h, ret]
/-- it returns True -/
def Rts (z : Option Fl) : Prop := ∃ q, z = some (.rt (.d (.bl true)) q)
theorem toR {g1 g2 : MS} {q q1 : Stt} (h : g1 q = some (.nx q1)) (k : Rts (g2 q1)) : Rts (sSeq g1 g2 q) := by
  obtain ⟨q2, k⟩ := k
  exact ⟨q2, sSeq_to h k⟩
theorem Rts.of {z : Option Fl} {q : Stt} (h : z = some (.rt (.d (.bl true)) q)) : Rts z := ⟨q, h⟩
theorem Rts.fnG {n : Nat} {g : MS} {xs : List XV} {w : List WO} (h : Rts (g (fnQ n xs w))) : ∃ w', fnG n g xs w = some (.ok (.d (.bl true)), w') := by
  obtain ⟨q, h⟩ := h
  exact ⟨q.w, by simp only [Den.fnG, h]⟩
/-- a loop whose turns may raise -/
theorem loopD_all {a : XV → Stt → Option Stt} {g : MS} {c : Value} (p : D → Bool) (I : Stt → Prop) : ∀ (ds : List D) (q : Stt), (∀ d ∈ ds, ∀ q, I q → ∃ q1 q2, a (.d d) q = some q1 ∧ g q1 = some (if p d then .nx q2 else .ex c q2) ∧ I q2) → I q →
    ∃ q', loopD a g ds q = some (if ds.all p then .nx q' else .ex c q') ∧ I q'
  | [], q, _, i => ⟨q, rfl, i⟩
  | d :: ds, q, h, i => by
    obtain ⟨q1, q2, h1, h2, h3⟩ := h d (by simp) q i
    cases e : p d with
    | false =>
      rw [e] at h2
      have h2' : g q1 = some (.ex c q2) := h2
      refine ⟨q2, ?_, h3⟩
      simp only [loopD, h1, h2', List.all_cons, e, Bool.false_and, Bool.false_eq_true, if_false]
    | true =>
      rw [e] at h2
      have h2' : g q1 = some (.nx q2) := h2
      obtain ⟨q', h4, h5⟩ := loopD_all p I ds q2 (fun d m => h d (by simp [m])) h3
      refine ⟨q', ?_, h5⟩
      simp only [loopD, h1, h2', List.all_cons, e, Bool.true_and, h4]
end Den

namespace Den
open PySem PySem.Spec PyProof.Rows L2
open Evl (Ex)
structure Bl (mg : Str → Option Value) : Prop where
  ValueError_ : mg "ValueError" = none
  abs_ : mg "abs" = none
  int_ : mg "int" = none
  isinstance_ : mg "isinstance" = none
  len_ : mg "len" = none
  list_ : mg "list" = none
  min_ : mg "min" = none
  range_ : mg "range" = none
  set_ : mg "set" = none
  tuple_ : mg "tuple" = none
  type_ : mg "type" = none
  c_FARTHEST : ∃ u, mg "FARTHEST" = some (.int (1000000) u)
  c_MOST_ROWS : ∃ u, mg "MOST_ROWS" = some (.int (20) u)
  c_MOST_BATCHES : ∃ u, mg "MOST_BATCHES" = some (.int (20) u)
  c_MOST_SAMPLES : ∃ u, mg "MOST_SAMPLES" = some (.int (6) u)
  c_MOST_LOOKUPS : ∃ u, mg "MOST_LOOKUPS" = some (.int (4) u)
  c_MOST_DIVISOR : ∃ u, mg "MOST_DIVISOR" = some (.int (1000) u)
  c_MOST_CLIP : ∃ u, mg "MOST_CLIP" = some (.int (1000) u)
  c_MOST_TRAINERS : ∃ u, mg "MOST_TRAINERS" = some (.int (4) u)
  c_MOST_WINDOW : ∃ u, mg "MOST_WINDOW" = some (.int (20) u)
  c_MOST_LEAD : ∃ u, mg "MOST_LEAD" = some (.int (20) u)
structure Cl where
  AheadError_ : Addr
  BadProblem_ : Addr
  BadSetup_ : Addr
structure ClOk (K : PySem.W.Frag) (mg : Str → Option Value) (C : Cl) : Prop where
  AheadError_ : XCls K mg "AheadError" C.AheadError_
  BadProblem_ : XCls K mg "BadProblem" C.BadProblem_
  BadSetup_ : XCls K mg "BadSetup" C.BadSetup_
  BadProblem_E : ExcC K C.BadProblem_
  BadSetup_E : ExcC K C.BadSetup_
  kit_BadProblem_AheadError : PySem.W.kitOne K (.ref C.BadProblem_) (.ref C.AheadError_) = some true
  kit_BadProblem_ValueError : PySem.W.kitOne K (.ref C.BadProblem_) (.type "ValueError") = some true
  kit_BadSetup_AheadError : PySem.W.kitOne K (.ref C.BadSetup_) (.ref C.AheadError_) = some true
  exm_BadProblem_BadProblem : PySem.W.exmOne K (.ref C.BadProblem_) (.ref C.BadProblem_) = some true
  exm_BadSetup_BadProblem : PySem.W.exmOne K (.ref C.BadSetup_) (.ref C.BadProblem_) = some false
  exm_BadProblem_BadSetup : PySem.W.exmOne K (.ref C.BadProblem_) (.ref C.BadSetup_) = some false
  exm_BadSetup_BadSetup : PySem.W.exmOne K (.ref C.BadSetup_) (.ref C.BadSetup_) = some true
def m_BadProblem (C : Cl) : Value → Option Bool := fun v => if v = .ref C.BadProblem_ then some true else if v = .ref C.BadSetup_ then some false else none
theorem mm_BadProblem {K : PySem.W.Frag} {mg : Str → Option Value} {C : Cl} (CO : ClOk K mg C) : ∀ v k, m_BadProblem C v = some k → PySem.W.exmOne K v (.ref C.BadProblem_) = some k ∧ (k = true → v = .ref C.BadProblem_) := by
  intro v k h
  unfold m_BadProblem at h
  by_cases e : v = .ref C.BadProblem_
  · rw [if_pos e] at h
    cases h
    subst e
    exact ⟨CO.exm_BadProblem_BadProblem, fun _ => rfl⟩
  rw [if_neg e] at h
  clear e
  by_cases e : v = .ref C.BadSetup_
  · rw [if_pos e] at h
    cases h
    subst e
    exact ⟨CO.exm_BadSetup_BadProblem, fun _ => (by contradiction)⟩
  rw [if_neg e] at h
  clear e
  cases h
def m_BadSetup (C : Cl) : Value → Option Bool := fun v => if v = .ref C.BadSetup_ then some true else if v = .ref C.BadProblem_ then some false else none
theorem mm_BadSetup {K : PySem.W.Frag} {mg : Str → Option Value} {C : Cl} (CO : ClOk K mg C) : ∀ v k, m_BadSetup C v = some k → PySem.W.exmOne K v (.ref C.BadSetup_) = some k ∧ (k = true → v = .ref C.BadSetup_) := by
  intro v k h
  unfold m_BadSetup at h
  by_cases e : v = .ref C.BadSetup_
  · rw [if_pos e] at h
    cases h
    subst e
    exact ⟨CO.exm_BadSetup_BadSetup, fun _ => rfl⟩
  rw [if_neg e] at h
  clear e
  by_cases e : v = .ref C.BadProblem_
  · rw [if_pos e] at h
    cases h
    subst e
    exact ⟨CO.exm_BadProblem_BadSetup, fun _ => (by contradiction)⟩
  rw [if_neg e] at h
  clear e
  cases h
def top (i : Nat) : Stmt := PySem.Challenge.pw_rowsahead_k00_problems_and_setups.main.body.getD i (.Pass ⟨0, 0, 0, 0⟩)
abbrev s_is_integer : Stmt := top 15
abbrev s_is_tuple : Stmt := top 16
abbrev s_check_problem : Stmt := top 17
abbrev s_check_rows : Stmt := top 18
abbrev s_check_batches : Stmt := top 19
abbrev s_check_sample : Stmt := top 20
abbrev s_check_setup : Stmt := top 21
abbrev s_law_cell : Stmt := top 23
abbrev s_law_draws : Stmt := top 24
abbrev s_law_stream : Stmt := top 25
abbrev s_law_next : Stmt := top 26
abbrev s_law_problem : Stmt := top 27
abbrev s_law_setup : Stmt := top 28
abbrev s_law_kind : Stmt := top 29
abbrev s_law : Stmt := top 30
/-! ### is_integer -/
theorem sc_is_integer : FnScope ["value", "least", "most"] ["value", "least", "most"] (defScope s_is_integer) := ⟨rfl, rfl, rfl, by decide +kernel, rfl, by decide +kernel, by decide +kernel⟩
def g_is_integer : MS :=
  (sRet (bnd (tOf (eOp gIsT (eCB gType (aCons (eVar 0) aNil)) (eC (.ty "int")))) fun b => if b then (eChain (gC fun i j => decide (i ≤ j)) (gC fun i j => decide (i ≤ j)) (eVar 1) (eVar 0) (eVar 2)) else ret (.d (.bl false))))
def G_is_integer : Fn := fnG 3 (g_is_integer)
theorem d_is_integer {P : Program} {w : World} {K : PySem.W.Frag} {mg : Str → Option Value} {base : Heap} {fA : Addr} {fd : FuncData} (B : Bl mg)  (F : Fun K "is_integer" "is_integer" s_is_integer fA fd) (hm : mg "is_integer" = some (.ref fA)) (b : Binds K fd ["value", "least", "most"] []) : DefOk P w K mg base "is_integer" 1 3 G_is_integer := by
  refine def_ok F hm b sc_is_integer rfl fun cdv A outer s H E hr => ?_
  unfold g_is_integer
  exact ⟨_, (is_bone (is_ret (is_eand (is_cmp op_isTyB r2_isT (is_type B.type_ (is_v 0)) (is_ty (by rfl) B.int_ (by decide +kernel)) (nomark _)) (is_eand1 (is_chain op_le r2_C op_le r2_C (is_v 1) (is_v 0) (is_v 2))))))⟩
/-! ### is_tuple -/
theorem sc_is_tuple : FnScope ["value", "fewest", "most"] ["value", "fewest", "most"] (defScope s_is_tuple) := ⟨rfl, rfl, rfl, by decide +kernel, rfl, by decide +kernel, by decide +kernel⟩
def g_is_tuple : MS :=
  (sRet (bnd (tOf (eOp gIsT (eCB gType (aCons (eVar 0) aNil)) (eC (.ty "tuple")))) fun b => if b then (eChain (gC fun i j => decide (i ≤ j)) (gC fun i j => decide (i ≤ j)) (eVar 1) (eCB gLen (aCons (eVar 0) aNil)) (eVar 2)) else ret (.d (.bl false))))
def G_is_tuple : Fn := fnG 3 (g_is_tuple)
theorem d_is_tuple {P : Program} {w : World} {K : PySem.W.Frag} {mg : Str → Option Value} {base : Heap} {fA : Addr} {fd : FuncData} (B : Bl mg)  (F : Fun K "is_tuple" "is_tuple" s_is_tuple fA fd) (hm : mg "is_tuple" = some (.ref fA)) (b : Binds K fd ["value", "fewest", "most"] []) : DefOk P w K mg base "is_tuple" 1 3 G_is_tuple := by
  refine def_ok F hm b sc_is_tuple rfl fun cdv A outer s H E hr => ?_
  unfold g_is_tuple
  exact ⟨_, (is_bone (is_ret (is_eand (is_cmp op_isTyB r2_isT (is_type B.type_ (is_v 0)) (is_ty (by rfl) B.tuple_ (by decide +kernel)) (nomark _)) (is_eand1 (is_chain op_le r2_C op_le r2_C (is_v 1) (is_len B.len_ (is_v 0)) (is_v 2))))))⟩
/-! ### _check_rows -/
theorem sc_check_rows : FnScope ["rows", "worth"] ["rows"] (defScope s_check_rows) := ⟨rfl, rfl, rfl, by decide +kernel, rfl, by decide +kernel, by decide +kernel⟩
abbrev lb_check_rows_0 (C : Cl) : MS :=
  (sIf (tNotB (tOf (eCall 3 G_is_integer (aCons (eVar 1) (aCons (eUn gNeg (eC (.int (1000000)))) (aCons (eC (.int (1000000))) aNil)))))) (sRaise (.ref C.BadProblem_)) sNext)
def g_check_rows (C : Cl) : MS :=
  (sSeq (sIf (tNotB (tOf (eCall 3 G_is_tuple (aCons (eVar 0) (aCons (eC (.int 1)) (aCons (eC (.int (20))) aNil)))))) (sRaise (.ref C.BadProblem_)) sNext)
  (sFor (iOf (eVar 0)) (gSet 1) (lb_check_rows_0 C)))
def G_check_rows (C : Cl) : Fn := fnX 2 (g_check_rows C)
theorem d_check_rows {P : Program} {w : World} {K : PySem.W.Frag} {mg : Str → Option Value} {base : Heap} {fA : Addr} {fd : FuncData} (B : Bl mg) {C : Cl} (CO : ClOk K mg C) (d_is_tuple : DefOk P w K mg base "is_tuple" 1 3 (G_is_tuple)) (d_is_integer : DefOk P w K mg base "is_integer" 1 3 (G_is_integer)) (F : Fun K "_check_rows" "_check_rows" s_check_rows fA fd) (hm : mg "_check_rows" = some (.ref fA)) (b : Binds K fd ["rows"] []) : DefX P w K mg base "_check_rows" 2 1 (G_check_rows C) := by
  refine def_okX F hm b sc_check_rows rfl fun cdv A outer s H E hr => ?_
  unfold g_check_rows
  exact ⟨_, (is_bcons (is_ifS (is_tnot (is_tval (is_callD d_is_tuple (hr.mono (by first | decide | exact Nat.le_refl _)) fnG_ne (is_acons (is_v 0) (is_acons is_int (is_acons (is_glob B.c_MOST_ROWS) is_anil)))))) (is_bone (is_raise CO.BadProblem_ (takes_of rfl rfl rfl rfl))) is_bnil)
      (is_bone (is_for (passes_of rfl) (is_iseq (is_v 0)) (is_gname 1 sc_check_rows.nd) (is_bone (is_ifS (is_tnot (is_tval (is_callD d_is_integer (hr.mono (by first | decide | exact Nat.le_refl _)) fnG_ne (is_acons (is_v 1) (is_acons (is_neg (is_glob B.c_FARTHEST)) (is_acons (is_glob B.c_FARTHEST) is_anil)))))) (is_bone (is_raise CO.BadProblem_ (takes_of rfl rfl rfl rfl))) is_bnil)))))⟩
/-! ### _check_sample -/
theorem sc_check_sample : FnScope ["sample", "row_count", "looked_up", "target", "row"] ["sample", "row_count"] (defScope s_check_sample) := ⟨rfl, rfl, rfl, by decide +kernel, rfl, by decide +kernel, by decide +kernel⟩
abbrev lb_check_sample_0 (C : Cl) : MS :=
  (sIf (tNotB (tOf (eCall 3 G_is_integer (aCons (eVar 4) (aCons (eC (.int 0)) (aCons (eOp gMinus (eVar 1) (eC (.int 1))) aNil)))))) (sRaise (.ref C.BadProblem_)) sNext)
def g_check_sample (C : Cl) : MS :=
  (sSeq (sIf (tNotB (tOf (eCall 3 G_is_tuple (aCons (eVar 0) (aCons (eC (.int 2)) (aCons (eC (.int 2)) aNil)))))) (sRaise (.ref C.BadProblem_)) sNext)
  (sSeq (sAsg (eVar 0) (gTupD 2 (gsCons (gSet 2) (gsCons (gSet 3) gsNil))))
  (sSeq (sIf (tNotB (tOf (eCall 3 G_is_tuple (aCons (eVar 2) (aCons (eC (.int 1)) (aCons (eC (.int (4))) aNil)))))) (sRaise (.ref C.BadProblem_)) sNext)
  (sSeq (sFor (iOf (eVar 2)) (gSet 4) (lb_check_sample_0 C))
  (sSeq (sIf (tOf (eOp (gC fun i j => decide (i < j)) (eLenSet (eVar 2)) (eCB gLen (aCons (eVar 2) aNil)))) (sRaise (.ref C.BadProblem_)) sNext)
  (sIf (tNotB (tOf (eCall 3 G_is_integer (aCons (eVar 3) (aCons (eUn gNeg (eC (.int (1000000)))) (aCons (eC (.int (1000000))) aNil)))))) (sRaise (.ref C.BadProblem_)) sNext))))))
def G_check_sample (C : Cl) : Fn := fnX 5 (g_check_sample C)
theorem d_check_sample {P : Program} {w : World} {K : PySem.W.Frag} {mg : Str → Option Value} {base : Heap} {fA : Addr} {fd : FuncData} (B : Bl mg) {C : Cl} (CO : ClOk K mg C) (d_is_tuple : DefOk P w K mg base "is_tuple" 1 3 (G_is_tuple)) (d_is_integer : DefOk P w K mg base "is_integer" 1 3 (G_is_integer)) (F : Fun K "_check_sample" "_check_sample" s_check_sample fA fd) (hm : mg "_check_sample" = some (.ref fA)) (b : Binds K fd ["sample", "row_count"] []) : DefX P w K mg base "_check_sample" 2 2 (G_check_sample C) := by
  refine def_okX F hm b sc_check_sample rfl fun cdv A outer s H E hr => ?_
  unfold g_check_sample
  exact ⟨_, (is_bcons (is_ifS (is_tnot (is_tval (is_callD d_is_tuple (hr.mono (by first | decide | exact Nat.le_refl _)) fnG_ne (is_acons (is_v 0) (is_acons is_int (is_acons is_int is_anil)))))) (is_bone (is_raise CO.BadProblem_ (takes_of rfl rfl rfl rfl))) is_bnil)
      (is_bcons (is_asg (is_v 0) (is_gtup (is_gscons (is_gname 2 sc_check_sample.nd) (is_gscons (is_gname 3 sc_check_sample.nd) is_gsnil))))
      (is_bcons (is_ifS (is_tnot (is_tval (is_callD d_is_tuple (hr.mono (by first | decide | exact Nat.le_refl _)) fnG_ne (is_acons (is_v 2) (is_acons is_int (is_acons (is_glob B.c_MOST_LOOKUPS) is_anil)))))) (is_bone (is_raise CO.BadProblem_ (takes_of rfl rfl rfl rfl))) is_bnil)
      (is_bcons (is_for (passes_of rfl) (is_iseq (is_v 2)) (is_gname 4 sc_check_sample.nd) (is_bone (is_ifS (is_tnot (is_tval (is_callD d_is_integer (hr.mono (by first | decide | exact Nat.le_refl _)) fnG_ne (is_acons (is_v 4) (is_acons is_int (is_acons (is_sub (is_v 1) is_int) is_anil)))))) (is_bone (is_raise CO.BadProblem_ (takes_of rfl rfl rfl rfl))) is_bnil)))
      (is_bcons (is_ifS (is_tcmp op_lt r2_C (is_lenSet B.len_ B.set_ (is_v 2)) (is_len B.len_ (is_v 2)) (nomark _)) (is_bone (is_raise CO.BadProblem_ (takes_of rfl rfl rfl rfl))) is_bnil)
      (is_bone (is_ifS (is_tnot (is_tval (is_callD d_is_integer (hr.mono (by first | decide | exact Nat.le_refl _)) fnG_ne (is_acons (is_v 3) (is_acons (is_neg (is_glob B.c_FARTHEST)) (is_acons (is_glob B.c_FARTHEST) is_anil)))))) (is_bone (is_raise CO.BadProblem_ (takes_of rfl rfl rfl rfl))) is_bnil)))))))⟩
/-! ### _check_batches -/
theorem sc_check_batches : FnScope ["batches", "row_count", "batch", "sample"] ["batches", "row_count"] (defScope s_check_batches) := ⟨rfl, rfl, rfl, by decide +kernel, rfl, by decide +kernel, by decide +kernel⟩
abbrev lb_check_batches_0 (C : Cl) : MS :=
  (sDrop (eCall 2 (G_check_sample C) (aCons (eVar 3) (aCons (eVar 1) aNil))))
abbrev lb_check_batches_1 (C : Cl) : MS :=
  (sSeq (sIf (tNotB (tOf (eCall 3 G_is_tuple (aCons (eVar 2) (aCons (eC (.int 0)) (aCons (eC (.int (6))) aNil)))))) (sRaise (.ref C.BadProblem_)) sNext)
  (sFor (iOf (eVar 2)) (gSet 3) (lb_check_batches_0 C)))
def g_check_batches (C : Cl) : MS :=
  (sSeq (sIf (tNotB (tOf (eCall 3 G_is_tuple (aCons (eVar 0) (aCons (eC (.int 1)) (aCons (eC (.int (20))) aNil)))))) (sRaise (.ref C.BadProblem_)) sNext)
  (sFor (iOf (eVar 0)) (gSet 2) (lb_check_batches_1 C)))
def G_check_batches (C : Cl) : Fn := fnX 4 (g_check_batches C)
theorem d_check_batches {P : Program} {w : World} {K : PySem.W.Frag} {mg : Str → Option Value} {base : Heap} {fA : Addr} {fd : FuncData} (B : Bl mg) {C : Cl} (CO : ClOk K mg C) (d_is_tuple : DefOk P w K mg base "is_tuple" 1 3 (G_is_tuple)) (d_check_sample : DefX P w K mg base "_check_sample" 2 2 ((G_check_sample C))) (F : Fun K "_check_batches" "_check_batches" s_check_batches fA fd) (hm : mg "_check_batches" = some (.ref fA)) (b : Binds K fd ["batches", "row_count"] []) : DefX P w K mg base "_check_batches" 3 2 (G_check_batches C) := by
  refine def_okX F hm b sc_check_batches rfl fun cdv A outer s H E hr => ?_
  unfold g_check_batches
  exact ⟨_, (is_bcons (is_ifS (is_tnot (is_tval (is_callD d_is_tuple (hr.mono (by first | decide | exact Nat.le_refl _)) fnG_ne (is_acons (is_v 0) (is_acons is_int (is_acons (is_glob B.c_MOST_BATCHES) is_anil)))))) (is_bone (is_raise CO.BadProblem_ (takes_of rfl rfl rfl rfl))) is_bnil)
      (is_bone (is_for (passes_of rfl) (is_iseq (is_v 0)) (is_gname 2 sc_check_batches.nd) (is_bcons (is_ifS (is_tnot (is_tval (is_callD d_is_tuple (hr.mono (by first | decide | exact Nat.le_refl _)) fnG_ne (is_acons (is_v 2) (is_acons is_int (is_acons (is_glob B.c_MOST_SAMPLES) is_anil)))))) (is_bone (is_raise CO.BadProblem_ (takes_of rfl rfl rfl rfl))) is_bnil)
      (is_bone (is_for (passes_of rfl) (is_iseq (is_v 2)) (is_gname 3 sc_check_batches.nd) (is_bone (is_drop (is_callDX d_check_sample (hr.mono (by first | decide | exact Nat.le_refl _)) (takes_of rfl rfl rfl rfl) (is_acons (is_v 3) (is_acons (is_v 1) is_anil)))))))))))⟩
/-! ### check_problem -/
theorem sc_check_problem : FnScope ["value", "rows", "batches", "divisor", "clip"] ["value"] (defScope s_check_problem) := ⟨rfl, rfl, rfl, by decide +kernel, rfl, by decide +kernel, by decide +kernel⟩
def g_check_problem (C : Cl) : MS :=
  (sSeq (sIf (tNotB (tOf (eCall 3 G_is_tuple (aCons (eVar 0) (aCons (eC (.int 4)) (aCons (eC (.int 4)) aNil)))))) (sRaise (.ref C.BadProblem_)) sNext)
  (sSeq (sAsg (eVar 0) (gTupD 4 (gsCons (gSet 1) (gsCons (gSet 2) (gsCons (gSet 3) (gsCons (gSet 4) gsNil))))))
  (sSeq (sDrop (eCall 1 (G_check_rows C) (aCons (eVar 1) aNil)))
  (sSeq (sDrop (eCall 2 (G_check_batches C) (aCons (eVar 2) (aCons (eCB gLen (aCons (eVar 1) aNil)) aNil))))
  (sSeq (sIf (tNotB (tOf (eCall 3 G_is_integer (aCons (eVar 3) (aCons (eC (.int 1)) (aCons (eC (.int (1000))) aNil)))))) (sRaise (.ref C.BadProblem_)) sNext)
  (sIf (tNotB (tOf (eCall 3 G_is_integer (aCons (eVar 4) (aCons (eC (.int 1)) (aCons (eC (.int (1000))) aNil)))))) (sRaise (.ref C.BadProblem_)) sNext))))))
def G_check_problem (C : Cl) : Fn := fnX 5 (g_check_problem C)
theorem d_check_problem {P : Program} {w : World} {K : PySem.W.Frag} {mg : Str → Option Value} {base : Heap} {fA : Addr} {fd : FuncData} (B : Bl mg) {C : Cl} (CO : ClOk K mg C) (d_is_tuple : DefOk P w K mg base "is_tuple" 1 3 (G_is_tuple)) (d_check_rows : DefX P w K mg base "_check_rows" 2 1 ((G_check_rows C))) (d_check_batches : DefX P w K mg base "_check_batches" 3 2 ((G_check_batches C))) (d_is_integer : DefOk P w K mg base "is_integer" 1 3 (G_is_integer)) (F : Fun K "check_problem" "check_problem" s_check_problem fA fd) (hm : mg "check_problem" = some (.ref fA)) (b : Binds K fd ["value"] []) : DefX P w K mg base "check_problem" 4 1 (G_check_problem C) := by
  refine def_okX F hm b sc_check_problem rfl fun cdv A outer s H E hr => ?_
  unfold g_check_problem
  exact ⟨_, (is_bcons (is_ifS (is_tnot (is_tval (is_callD d_is_tuple (hr.mono (by first | decide | exact Nat.le_refl _)) fnG_ne (is_acons (is_v 0) (is_acons is_int (is_acons is_int is_anil)))))) (is_bone (is_raise CO.BadProblem_ (takes_of rfl rfl rfl rfl))) is_bnil)
      (is_bcons (is_asg (is_v 0) (is_gtup (is_gscons (is_gname 1 sc_check_problem.nd) (is_gscons (is_gname 2 sc_check_problem.nd) (is_gscons (is_gname 3 sc_check_problem.nd) (is_gscons (is_gname 4 sc_check_problem.nd) is_gsnil))))))
      (is_bcons (is_drop (is_callDX d_check_rows (hr.mono (by first | decide | exact Nat.le_refl _)) (takes_of rfl rfl rfl rfl) (is_acons (is_v 1) is_anil)))
      (is_bcons (is_drop (is_callDX d_check_batches (hr.mono (by first | decide | exact Nat.le_refl _)) (takes_of rfl rfl rfl rfl) (is_acons (is_v 2) (is_acons (is_len B.len_ (is_v 1)) is_anil))))
      (is_bcons (is_ifS (is_tnot (is_tval (is_callD d_is_integer (hr.mono (by first | decide | exact Nat.le_refl _)) fnG_ne (is_acons (is_v 3) (is_acons is_int (is_acons (is_glob B.c_MOST_DIVISOR) is_anil)))))) (is_bone (is_raise CO.BadProblem_ (takes_of rfl rfl rfl rfl))) is_bnil)
      (is_bone (is_ifS (is_tnot (is_tval (is_callD d_is_integer (hr.mono (by first | decide | exact Nat.le_refl _)) fnG_ne (is_acons (is_v 4) (is_acons is_int (is_acons (is_glob B.c_MOST_CLIP) is_anil)))))) (is_bone (is_raise CO.BadProblem_ (takes_of rfl rfl rfl rfl))) is_bnil)))))))⟩
/-! ### check_setup -/
theorem sc_check_setup : FnScope ["value", "trainers", "window", "lead"] ["value"] (defScope s_check_setup) := ⟨rfl, rfl, rfl, by decide +kernel, rfl, by decide +kernel, by decide +kernel⟩
def g_check_setup (C : Cl) : MS :=
  (sSeq (sIf (tNotB (tOf (eCall 3 G_is_tuple (aCons (eVar 0) (aCons (eC (.int 3)) (aCons (eC (.int 3)) aNil)))))) (sRaise (.ref C.BadSetup_)) sNext)
  (sSeq (sAsg (eVar 0) (gTupD 3 (gsCons (gSet 1) (gsCons (gSet 2) (gsCons (gSet 3) gsNil)))))
  (sSeq (sIf (tNotB (tOf (eCall 3 G_is_integer (aCons (eVar 1) (aCons (eC (.int 1)) (aCons (eC (.int (4))) aNil)))))) (sRaise (.ref C.BadSetup_)) sNext)
  (sSeq (sIf (tNotB (tOf (eCall 3 G_is_integer (aCons (eVar 2) (aCons (eC (.int 1)) (aCons (eC (.int (20))) aNil)))))) (sRaise (.ref C.BadSetup_)) sNext)
  (sIf (tNotB (tOf (eCall 3 G_is_integer (aCons (eVar 3) (aCons (eC (.int 1)) (aCons (eC (.int (20))) aNil)))))) (sRaise (.ref C.BadSetup_)) sNext)))))
def G_check_setup (C : Cl) : Fn := fnX 4 (g_check_setup C)
theorem d_check_setup {P : Program} {w : World} {K : PySem.W.Frag} {mg : Str → Option Value} {base : Heap} {fA : Addr} {fd : FuncData} (B : Bl mg) {C : Cl} (CO : ClOk K mg C) (d_is_tuple : DefOk P w K mg base "is_tuple" 1 3 (G_is_tuple)) (d_is_integer : DefOk P w K mg base "is_integer" 1 3 (G_is_integer)) (F : Fun K "check_setup" "check_setup" s_check_setup fA fd) (hm : mg "check_setup" = some (.ref fA)) (b : Binds K fd ["value"] []) : DefX P w K mg base "check_setup" 2 1 (G_check_setup C) := by
  refine def_okX F hm b sc_check_setup rfl fun cdv A outer s H E hr => ?_
  unfold g_check_setup
  exact ⟨_, (is_bcons (is_ifS (is_tnot (is_tval (is_callD d_is_tuple (hr.mono (by first | decide | exact Nat.le_refl _)) fnG_ne (is_acons (is_v 0) (is_acons is_int (is_acons is_int is_anil)))))) (is_bone (is_raise CO.BadSetup_ (takes_of rfl rfl rfl rfl))) is_bnil)
      (is_bcons (is_asg (is_v 0) (is_gtup (is_gscons (is_gname 1 sc_check_setup.nd) (is_gscons (is_gname 2 sc_check_setup.nd) (is_gscons (is_gname 3 sc_check_setup.nd) is_gsnil)))))
      (is_bcons (is_ifS (is_tnot (is_tval (is_callD d_is_integer (hr.mono (by first | decide | exact Nat.le_refl _)) fnG_ne (is_acons (is_v 1) (is_acons is_int (is_acons (is_glob B.c_MOST_TRAINERS) is_anil)))))) (is_bone (is_raise CO.BadSetup_ (takes_of rfl rfl rfl rfl))) is_bnil)
      (is_bcons (is_ifS (is_tnot (is_tval (is_callD d_is_integer (hr.mono (by first | decide | exact Nat.le_refl _)) fnG_ne (is_acons (is_v 2) (is_acons is_int (is_acons (is_glob B.c_MOST_WINDOW) is_anil)))))) (is_bone (is_raise CO.BadSetup_ (takes_of rfl rfl rfl rfl))) is_bnil)
      (is_bone (is_ifS (is_tnot (is_tval (is_callD d_is_integer (hr.mono (by first | decide | exact Nat.le_refl _)) fnG_ne (is_acons (is_v 3) (is_acons is_int (is_acons (is_glob B.c_MOST_LEAD) is_anil)))))) (is_bone (is_raise CO.BadSetup_ (takes_of rfl rfl rfl rfl))) is_bnil))))))⟩
/-! ### _law_cell -/
theorem sc_law_cell : FnScope ["script", "k"] ["script", "k"] (defScope s_law_cell) := ⟨rfl, rfl, rfl, by decide +kernel, rfl, by decide +kernel, by decide +kernel⟩
def g_law_cell : MS :=
  (sSeq (sIf (tOf (eOp (gC fun i j => decide (i < j)) (eVar 1) (eCB gLen (aCons (eVar 0) aNil)))) (sRet (eCB gInt (aCons (eIx (eVar 0) (eVar 1)) aNil))) sNext)
  (sRet (eC (.int 0))))
def G_law_cell : Fn := fnG 2 (g_law_cell)
theorem d_law_cell {P : Program} {w : World} {K : PySem.W.Frag} {mg : Str → Option Value} {base : Heap} {fA : Addr} {fd : FuncData} (B : Bl mg)  (F : Fun K "_law_cell" "_law_cell" s_law_cell fA fd) (hm : mg "_law_cell" = some (.ref fA)) (b : Binds K fd ["script", "k"] []) : DefOk P w K mg base "_law_cell" 1 2 G_law_cell := by
  refine def_ok F hm b sc_law_cell rfl fun cdv A outer s H E hr => ?_
  unfold g_law_cell
  exact ⟨_, (is_bcons (is_ifS (is_tcmp op_lt r2_C (is_v 1) (is_len B.len_ (is_v 0)) (nomark _)) (is_bone (is_ret (is_int1 B.int_ (is_ix (hu_of hr) (is_v 0) (is_v 1))))) is_bnil)
      (is_bone (is_ret is_int)))⟩
/-! ### _law_draws -/
theorem sc_law_draws : FnScope ["cell", "count", "number", "great", "found", "k", "mixed"] ["cell", "count"] (defScope s_law_draws) := ⟨rfl, rfl, rfl, by decide +kernel, rfl, by decide +kernel, by decide +kernel⟩
abbrev lb_law_draws_0 : MS :=
  (sIf (tAndB (tOf (eOp (gC fun i j => decide (i < j)) (eVar 5) (eVar 1))) (tOf (eVar 3))) (sSeq (sDrop (eM1V gApp 4 (eOp gMod (eVar 2) (eC (.int 60)))))
  (sAsg (eOp gDiv (eVar 2) (eC (.int 60))) (gSet 2))) (sIf (tOf (eOp (gC fun i j => decide (i < j)) (eVar 5) (eVar 1))) (sSeq (sAsg (eOp gMod (eOp gAdd (eOp gAdd (eOp gMul (eCB gInt (aCons (eVar 2) aNil)) (eC (.int 48271))) (eOp gMul (eVar 5) (eC (.int 69621)))) (eC (.int 11))) (eC (.int 2147483647))) (gSet 6))
  (sSeq (sAsg (eOp gMod (eOp gAdd (eOp gAdd (eOp gMul (eCB gInt (aCons (eVar 6) aNil)) (eCB gInt (aCons (eVar 6) aNil))) (eOp gMul (eVar 5) (eC (.int 7919)))) (eC (.int 5))) (eC (.int 998244353))) (gSet 6))
  (sDrop (eM1V gApp 4 (eOp gMod (eCB gInt (aCons (eVar 6) aNil)) (eC (.int 60))))))) sNext))
def g_law_draws : MS :=
  (sSeq (sAsg (eCB gAbs (aCons (eCB gInt (aCons (eVar 0) aNil)) aNil)) (gSet 2))
  (sSeq (sAsg (eOp (gC fun i j => decide (j ≤ i)) (eVar 2) (eOp gPow (eC (.int 10)) (eC (.int 18)))) (gSet 3))
  (sSeq (sSetL (lLst aNil) 4)
  (sSeq (sFor (bnd (aCons (eC (.int 60)) aNil) fun xs => lft (rng1 xs)) (gSet 5) lb_law_draws_0)
  (sRet (eVar 4))))))
def G_law_draws : Fn := fnG 7 (g_law_draws)
theorem d_law_draws {P : Program} {w : World} {K : PySem.W.Frag} {mg : Str → Option Value} {base : Heap} {fA : Addr} {fd : FuncData} (B : Bl mg)  (F : Fun K "_law_draws" "_law_draws" s_law_draws fA fd) (hm : mg "_law_draws" = some (.ref fA)) (b : Binds K fd ["cell", "count"] []) : DefOk P w K mg base "_law_draws" 1 2 G_law_draws := by
  refine def_ok F hm b sc_law_draws rfl fun cdv A outer s H E hr => ?_
  unfold g_law_draws
  exact ⟨_, (is_bcons (is_set 2 sc_law_draws.nd (is_abs B.abs_ (is_int1 B.int_ (is_v 0))))
      (is_bcons (is_set 3 sc_law_draws.nd (is_cmp op_ge r2_C (is_v 2) (is_pow is_int is_int) (nomark _)))
      (is_bcons (is_setL 4 sc_law_draws.nd (is_lst is_anil))
      (is_bcons (is_for PassesOwn.never (is_rng1 (is_acons is_int is_anil) (by rfl) B.range_) (is_gname 5 sc_law_draws.nd) (is_bone (is_ifS (is_tw (is_wand (is_tcmp op_lt r2_C (is_v 5) (is_v 1) (nomark _)) (is_wand1 (is_tval (is_v 3))))) (is_bcons (is_drop (is_appV 4 (is_mod (is_v 2) is_int)))
      (is_bone (is_set 2 sc_law_draws.nd (is_div (is_v 2) is_int)))) (is_bone (is_ifS (is_tcmp op_lt r2_C (is_v 5) (is_v 1) (nomark _)) (is_bcons (is_set 6 sc_law_draws.nd (is_mod (is_add (is_add (is_mul (is_int1 B.int_ (is_v 2)) is_int) (is_mul (is_v 5) is_int)) is_int) is_int))
      (is_bcons (is_set 6 sc_law_draws.nd (is_mod (is_add (is_add (is_mul (is_int1 B.int_ (is_v 6)) (is_int1 B.int_ (is_v 6))) (is_mul (is_v 5) is_int)) is_int) is_int))
      (is_bone (is_drop (is_appV 4 (is_mod (is_int1 B.int_ (is_v 6)) is_int)))))) is_bnil)))))
      (is_bone (is_ret (is_v 4)))))))⟩
/-! ### _law_stream -/
theorem sc_law_stream : FnScope ["script", "first", "count", "found", "k"] ["script", "first", "count"] (defScope s_law_stream) := ⟨rfl, rfl, rfl, by decide +kernel, rfl, by decide +kernel, by decide +kernel⟩
abbrev lb_law_stream_0 : MS :=
  (sDrop (eM1V gExt 3 (eCall 2 G_law_draws (aCons (eCall 2 G_law_cell (aCons (eVar 0) (aCons (eOp gAdd (eVar 1) (eVar 4)) aNil))) (aCons (eC (.int 12)) aNil)))))
def g_law_stream : MS :=
  (sSeq (sSetL (lLst aNil) 3)
  (sSeq (sFor (bnd (aCons (eVar 2) aNil) fun xs => lft (rng1 xs)) (gSet 4) lb_law_stream_0)
  (sRet (eNewW (aCons (eVar 3) (aCons (eNewW (aCons (eC (.int 0)) aNil)) aNil))))))
def G_law_stream : Fn := fnG 5 (g_law_stream)
theorem d_law_stream {P : Program} {w : World} {K : PySem.W.Frag} {mg : Str → Option Value} {base : Heap} {fA : Addr} {fd : FuncData} (B : Bl mg) (d_law_draws : DefOk P w K mg base "_law_draws" 1 2 (G_law_draws)) (d_law_cell : DefOk P w K mg base "_law_cell" 1 2 (G_law_cell)) (F : Fun K "_law_stream" "_law_stream" s_law_stream fA fd) (hm : mg "_law_stream" = some (.ref fA)) (b : Binds K fd ["script", "first", "count"] []) : DefOk P w K mg base "_law_stream" 2 3 G_law_stream := by
  refine def_ok F hm b sc_law_stream rfl fun cdv A outer s H E hr => ?_
  unfold g_law_stream
  exact ⟨_, (is_bcons (is_setL 3 sc_law_stream.nd (is_lst is_anil))
      (is_bcons (is_for PassesOwn.never (is_rng1 (is_acons (is_v 2) is_anil) (by rfl) B.range_) (is_gname 4 sc_law_stream.nd) (is_bone (is_drop (is_extV 3 (is_callD d_law_draws (hr.mono (by first | decide | exact Nat.le_refl _)) fnG_ne (is_acons (is_callD d_law_cell (hr.mono (by first | decide | exact Nat.le_refl _)) fnG_ne (is_acons (is_v 0) (is_acons (is_add (is_v 1) (is_v 4)) is_anil))) (is_acons is_int is_anil)))))))
      (is_bone (is_ret (is_lstW (is_acons (is_v 3) (is_acons (is_lstW (is_acons is_int is_anil)) is_anil)))))))⟩
/-! ### _law_next -/
theorem sc_law_next : FnScope ["stream", "many", "digits", "place", "value"] ["stream", "many"] (defScope s_law_next) := ⟨rfl, rfl, rfl, by decide +kernel, rfl, by decide +kernel, by decide +kernel⟩
def g_law_next : MS :=
  (sSeq (sAsg (eIx (eVar 0) (eC (.int 0))) (gSet 2))
  (sSeq (sAsg (eIx (eVar 0) (eC (.int 1))) (gSet 3))
  (sSeq (sAsg (eOp gMod (eCB gInt (aCons (eIx (eVar 2) (eOp gMod (eCB gInt (aCons (eIx (eVar 3) (eC (.int 0))) aNil)) (eCB gLen (aCons (eVar 2) aNil)))) aNil)) (eVar 1)) (gSet 4))
  (sSeq (sSetW 3 (eC (.int 0)) (eOp gAdd (eIx (eVar 3) (eC (.int 0))) (eC (.int 1))))
  (sRet (eVar 4))))))
def G_law_next : Fn := fnG 5 (g_law_next)
theorem d_law_next {P : Program} {w : World} {K : PySem.W.Frag} {mg : Str → Option Value} {base : Heap} {fA : Addr} {fd : FuncData} (B : Bl mg)  (F : Fun K "_law_next" "_law_next" s_law_next fA fd) (hm : mg "_law_next" = some (.ref fA)) (b : Binds K fd ["stream", "many"] []) : DefOk P w K mg base "_law_next" 1 2 G_law_next := by
  refine def_ok F hm b sc_law_next rfl fun cdv A outer s H E hr => ?_
  unfold g_law_next
  exact ⟨_, (is_bcons (is_set 2 sc_law_next.nd (is_ix (hu_of hr) (is_v 0) is_int))
      (is_bcons (is_set 3 sc_law_next.nd (is_ix (hu_of hr) (is_v 0) is_int))
      (is_bcons (is_set 4 sc_law_next.nd (is_mod (is_int1 B.int_ (is_ix (hu_of hr) (is_v 2) (is_mod (is_int1 B.int_ (is_ix (hu_of hr) (is_v 3) is_int)) (is_len B.len_ (is_v 2))))) (is_v 1)))
      (is_bcons (is_setW 3 is_int (is_add (is_ix (hu_of hr) (is_v 3) is_int) is_int))
      (is_bone (is_ret (is_v 4)))))))⟩
/-! ### _law_problem -/
theorem sc_law_problem : FnScope ["stream", "most", "k", "rows", "batches", "t", "samples", "left", "chosen", "j"] ["stream", "most"] (defScope s_law_problem) := ⟨rfl, rfl, rfl, by decide +kernel, rfl, by decide +kernel, by decide +kernel⟩
abbrev lb_law_problem_0 : MS :=
  (sDrop (eM1V gApp 8 (eM1V gPopAt 7 (eCall 2 G_law_next (aCons (eVar 0) (aCons (eCBV gLen 7) aNil))))))
abbrev lb_law_problem_1 : MS :=
  (sSeq (sSetL (lRng (eCB gLen (aCons (eVar 3) aNil))) 7)
  (sSeq (sSetL (lLst aNil) 8)
  (sSeq (sFor (bnd (aCons (eCB gMin (aCons (eCB gLen (aCons (eVar 3) aNil)) (aCons (eOp gAdd (eC (.int 1)) (eCall 2 G_law_next (aCons (eVar 0) (aCons (eC (.int 3)) aNil)))) aNil))) aNil) fun xs => lft (rng1 xs)) (gSet 9) lb_law_problem_0)
  (sDrop (eM1V gApp 6 (eTup (aCons (eCBV gTuple 8) (aCons (eOp gMinus (eCall 2 G_law_next (aCons (eVar 0) (aCons (eC (.int 41)) aNil))) (eC (.int 20))) aNil))))))))
abbrev lb_law_problem_2 : MS :=
  (sSeq (sSetL (lLst aNil) 6)
  (sSeq (sFor (bnd (aCons (eIx (eL (lLst (aCons (eC (.int 0)) (aCons (eC (.int 1)) (aCons (eC (.int 1)) (aCons (eC (.int 2)) (aCons (eC (.int 2)) (aCons (eC (.int 3)) (aCons (eC (.int 5)) aNil))))))))) (eCall 2 G_law_next (aCons (eVar 0) (aCons (eC (.int 7)) aNil)))) aNil) fun xs => lft (rng1 xs)) (gSet 2) lb_law_problem_1)
  (sDrop (eM1V gApp 4 (eCBV gTuple 6)))))
def g_law_problem : MS :=
  (sSeq (sAsg (eCB gTuple (aCons (eL (lLc [2] (bnd (aCons (eOp gAdd (eC (.int 1)) (eCall 2 G_law_next (aCons (eVar 0) (aCons (eC (.int 5)) aNil)))) aNil) fun xs => lft (rng1 xs)) (gSet 2) (ret true) (eOp gMinus (eCall 2 G_law_next (aCons (eVar 0) (aCons (eC (.int 21)) aNil))) (eC (.int 10))))) aNil)) (gSet 3))
  (sSeq (sSetL (lLst aNil) 4)
  (sSeq (sFor (bnd (aCons (eOp gAdd (eC (.int 1)) (eCall 2 G_law_next (aCons (eVar 0) (aCons (eVar 1) aNil)))) aNil) fun xs => lft (rng1 xs)) (gSet 5) lb_law_problem_2)
  (sRet (eTup (aCons (eVar 3) (aCons (eCBV gTuple 4) (aCons (eOp gAdd (eC (.int 1)) (eCall 2 G_law_next (aCons (eVar 0) (aCons (eC (.int 3)) aNil)))) (aCons (eOp gAdd (eC (.int 1)) (eCall 2 G_law_next (aCons (eVar 0) (aCons (eC (.int 6)) aNil)))) aNil)))))))))
def G_law_problem : Fn := fnG 10 (g_law_problem)
theorem d_law_problem {P : Program} {w : World} {K : PySem.W.Frag} {mg : Str → Option Value} {base : Heap} {fA : Addr} {fd : FuncData} (B : Bl mg) (d_law_next : DefOk P w K mg base "_law_next" 1 2 (G_law_next)) (F : Fun K "_law_problem" "_law_problem" s_law_problem fA fd) (hm : mg "_law_problem" = some (.ref fA)) (b : Binds K fd ["stream", "most"] []) : DefOk P w K mg base "_law_problem" 2 2 G_law_problem := by
  refine def_ok F hm b sc_law_problem rfl fun cdv A outer s H E hr => ?_
  unfold g_law_problem
  exact ⟨_, (is_bcons (is_set 3 sc_law_problem.nd (is_tuple B.tuple_ (is_l (is_lc (own := [("k", 2)]) sc_law_problem.nd (is_rng1 (is_acons (is_add is_int (is_callD d_law_next (hr.mono (by first | decide | exact Nat.le_refl _)) fnG_ne (is_acons (is_v 0) (is_acons is_int is_anil)))) is_anil) (by rfl) B.range_) (blkOk_by (own := [("k", 2)]) (N := ["stream", "most", "k", "rows", "batches", "t", "samples", "left", "chosen", "j"]) (sc := defScope s_law_problem) (by decide +kernel)) (fun _ _ _ _ _ => isG_t (is_gname 2 sc_law_problem.nd) (by dsimp only [Cx.blk] <;> exact rfl)) (fun _ _ _ _ _ => isTs_t is_tsnil (by dsimp only [Cx.blk] <;> exact rfl)) (fun _ _ _ _ _ => isE_t (is_sub (is_callD d_law_next (hr.mono (by first | decide | exact Nat.le_refl _)) fnG_ne (is_acons (is_v 0) (is_acons is_int is_anil))) is_int) (by dsimp only [Cx.blk] <;> exact rfl))))))
      (is_bcons (is_setL 4 sc_law_problem.nd (is_lst is_anil))
      (is_bcons (is_for PassesOwn.never (is_rng1 (is_acons (is_add is_int (is_callD d_law_next (hr.mono (by first | decide | exact Nat.le_refl _)) fnG_ne (is_acons (is_v 0) (is_acons (is_v 1) is_anil)))) is_anil) (by rfl) B.range_) (is_gname 5 sc_law_problem.nd) (is_bcons (is_setL 6 sc_law_problem.nd (is_lst is_anil))
      (is_bcons (is_for PassesOwn.never (is_rng1 (is_acons (is_ix (hu_of hr) (is_l (is_lst (is_acons is_int (is_acons is_int (is_acons is_int (is_acons is_int (is_acons is_int (is_acons is_int (is_acons is_int is_anil))))))))) (is_callD d_law_next (hr.mono (by first | decide | exact Nat.le_refl _)) fnG_ne (is_acons (is_v 0) (is_acons is_int is_anil)))) is_anil) (by rfl) B.range_) (is_gname 2 sc_law_problem.nd) (is_bcons (is_setL 7 sc_law_problem.nd (is_lrng (is_len B.len_ (is_v 3)) (by rfl) B.range_ (by rfl) B.list_))
      (is_bcons (is_setL 8 sc_law_problem.nd (is_lst is_anil))
      (is_bcons (is_for PassesOwn.never (is_rng1 (is_acons (is_min2 B.min_ (is_len B.len_ (is_v 3)) (is_add is_int (is_callD d_law_next (hr.mono (by first | decide | exact Nat.le_refl _)) fnG_ne (is_acons (is_v 0) (is_acons is_int is_anil))))) is_anil) (by rfl) B.range_) (is_gname 9 sc_law_problem.nd) (is_bone (is_drop (is_appV 8 (is_popV 7 (is_callD d_law_next (hr.mono (by first | decide | exact Nat.le_refl _)) fnG_ne (is_acons (is_v 0) (is_acons (is_lenV 7 B.len_) is_anil))))))))
      (is_bone (is_drop (is_appV 6 (is_tup (is_acons (is_tupleV 8 B.tuple_) (is_acons (is_sub (is_callD d_law_next (hr.mono (by first | decide | exact Nat.le_refl _)) fnG_ne (is_acons (is_v 0) (is_acons is_int is_anil))) is_int) is_anil))))))))))
      (is_bone (is_drop (is_appV 4 (is_tupleV 6 B.tuple_)))))))
      (is_bone (is_ret (is_tup (is_acons (is_v 3) (is_acons (is_tupleV 4 B.tuple_) (is_acons (is_add is_int (is_callD d_law_next (hr.mono (by first | decide | exact Nat.le_refl _)) fnG_ne (is_acons (is_v 0) (is_acons is_int is_anil)))) (is_acons (is_add is_int (is_callD d_law_next (hr.mono (by first | decide | exact Nat.le_refl _)) fnG_ne (is_acons (is_v 0) (is_acons is_int is_anil)))) is_anil))))))))))⟩
/-! ### _law_setup -/
theorem sc_law_setup : FnScope ["stream"] ["stream"] (defScope s_law_setup) := ⟨rfl, rfl, rfl, by decide +kernel, rfl, by decide +kernel, by decide +kernel⟩
def g_law_setup : MS :=
  (sRet (eTup (aCons (eOp gAdd (eC (.int 1)) (eCall 2 G_law_next (aCons (eVar 0) (aCons (eC (.int 4)) aNil)))) (aCons (eOp gAdd (eC (.int 1)) (eCall 2 G_law_next (aCons (eVar 0) (aCons (eC (.int 3)) aNil)))) (aCons (eOp gAdd (eC (.int 1)) (eCall 2 G_law_next (aCons (eVar 0) (aCons (eC (.int 3)) aNil)))) aNil)))))
def G_law_setup : Fn := fnG 1 (g_law_setup)
theorem d_law_setup {P : Program} {w : World} {K : PySem.W.Frag} {mg : Str → Option Value} {base : Heap} {fA : Addr} {fd : FuncData} (B : Bl mg) (d_law_next : DefOk P w K mg base "_law_next" 1 2 (G_law_next)) (F : Fun K "_law_setup" "_law_setup" s_law_setup fA fd) (hm : mg "_law_setup" = some (.ref fA)) (b : Binds K fd ["stream"] []) : DefOk P w K mg base "_law_setup" 2 1 G_law_setup := by
  refine def_ok F hm b sc_law_setup rfl fun cdv A outer s H E hr => ?_
  unfold g_law_setup
  exact ⟨_, (is_bone (is_ret (is_tup (is_acons (is_add is_int (is_callD d_law_next (hr.mono (by first | decide | exact Nat.le_refl _)) fnG_ne (is_acons (is_v 0) (is_acons is_int is_anil)))) (is_acons (is_add is_int (is_callD d_law_next (hr.mono (by first | decide | exact Nat.le_refl _)) fnG_ne (is_acons (is_v 0) (is_acons is_int is_anil)))) (is_acons (is_add is_int (is_callD d_law_next (hr.mono (by first | decide | exact Nat.le_refl _)) fnG_ne (is_acons (is_v 0) (is_acons is_int is_anil)))) is_anil))))))⟩
/-! ### _law_kind -/
theorem sc_law_kind : FnScope ["problem", "setup", "e"] ["problem", "setup"] (defScope s_law_kind) := ⟨rfl, rfl, rfl, by decide +kernel, rfl, by decide +kernel, by decide +kernel⟩
def su_law_kind_BadSetup (C : Cl) (a : Addr) : MS :=
  (sRet (eIx (eL (lLst (aCons (eC (.str "other")) (aCons (eC (.str "setup")) aNil)))) (eCB gInt (aCons (eIsE 2 a true) aNil))))
theorem ind_law_kind_BadSetup (C : Cl) : ∀ a q, (su_law_kind_BadSetup C a (hereQ q a (some 2))).bind (goneF (some 2)) = (su_law_kind_BadSetup C 0 (hereQ q 0 (some 2))).bind (goneF (some 2)) := by
  intro a q
  have e1 : ∀ (x : Addr) (b : Bool) (q2 : Stt), q2 = hereQ q x (some 2) → eIsE 2 x b q2 = if 2 < q.sl.length then some (.ok (.d (.bl b)), q2) else none := eIsE_here
  unfold su_law_kind_BadSetup
  by_cases h : 2 < q.sl.length
  · simp only [sRet, sOf, eIx, eL, lLst, aCons, aNil, bnd, eC, ret, lft, eCB, tOf, toB, e1 _ _ _ rfl, if_pos h, Option.bind, allD, Option.map, if_true, goneF, goneQ_here, List.length_cons, List.length_nil, big, Nat.reduceAdd, Nat.reduceLeDiff, ↓reduceIte, gInt, ixX, ixD, atI]
    first | done | exact congrArg (fun z => some (Fl.rt _ z)) ((goneQ_here (a := a)).trans (goneQ_here (a := 0)).symm)
  · simp only [sRet, sOf, eIx, eL, lLst, aCons, aNil, bnd, eC, ret, lft, eCB, tOf, toB, e1 _ _ _ rfl, if_neg h, Option.bind, allD, Option.map, List.length_cons, List.length_nil, big, Nat.reduceAdd, Nat.reduceLeDiff, ↓reduceIte]
    try rfl
def su_law_kind_BadProblem (C : Cl) (a : Addr) : MS :=
  (sRet (eIx (eL (lLst (aCons (eC (.str "other")) (aCons (eC (.str "problem")) aNil)))) (eCB gInt (aCons (bnd (tOf (eIsE 2 a true)) fun b => if b then (eIsE 2 a true) else ret (.d (.bl false))) aNil))))
theorem ind_law_kind_BadProblem (C : Cl) : ∀ a q, (su_law_kind_BadProblem C a (hereQ q a (some 2))).bind (goneF (some 2)) = (su_law_kind_BadProblem C 0 (hereQ q 0 (some 2))).bind (goneF (some 2)) := by
  intro a q
  have e1 : ∀ (x : Addr) (b : Bool) (q2 : Stt), q2 = hereQ q x (some 2) → eIsE 2 x b q2 = if 2 < q.sl.length then some (.ok (.d (.bl b)), q2) else none := eIsE_here
  unfold su_law_kind_BadProblem
  by_cases h : 2 < q.sl.length
  · simp only [sRet, sOf, eIx, eL, lLst, aCons, aNil, bnd, eC, ret, lft, eCB, tOf, toB, e1 _ _ _ rfl, if_pos h, Option.bind, allD, Option.map, if_true, goneF, goneQ_here, List.length_cons, List.length_nil, big, Nat.reduceAdd, Nat.reduceLeDiff, ↓reduceIte, gInt, ixX, ixD, atI]
    first | done | exact congrArg (fun z => some (Fl.rt _ z)) ((goneQ_here (a := a)).trans (goneQ_here (a := 0)).symm)
  · simp only [sRet, sOf, eIx, eL, lLst, aCons, aNil, bnd, eC, ret, lft, eCB, tOf, toB, e1 _ _ _ rfl, if_neg h, Option.bind, allD, Option.map, List.length_cons, List.length_nil, big, Nat.reduceAdd, Nat.reduceLeDiff, ↓reduceIte]
    try rfl
def g_law_kind (C : Cl) : MS :=
  (sSeq (sTry (sSeq (sIf (tOf (eOp gNotN (eVar 0) (eC .non))) (sDrop (eCall 1 (G_check_problem C) (aCons (eIx (eVar 0) (eC (.int 0))) aNil))) sNext)
  (sIf (tOf (eOp gNotN (eVar 1) (eC .non))) (sDrop (eCall 1 (G_check_setup C) (aCons (eIx (eVar 1) (eC (.int 0))) aNil))) sNext)) ((m_BadProblem C, some 2, fun a _ => su_law_kind_BadProblem C a) :: ((m_BadSetup C, some 2, fun a _ => su_law_kind_BadSetup C a) :: [])))
  (sRet (eC (.str "done"))))
def G_law_kind (C : Cl) : Fn := fnG 3 (g_law_kind C)
theorem d_law_kind {P : Program} {w : World} {K : PySem.W.Frag} {mg : Str → Option Value} {base : Heap} {fA : Addr} {fd : FuncData} (B : Bl mg) {C : Cl} (CO : ClOk K mg C) (d_check_problem : DefX P w K mg base "check_problem" 4 1 ((G_check_problem C))) (d_check_setup : DefX P w K mg base "check_setup" 2 1 ((G_check_setup C))) (F : Fun K "_law_kind" "_law_kind" s_law_kind fA fd) (hm : mg "_law_kind" = some (.ref fA)) (b : Binds K fd ["problem", "setup"] []) : DefOk P w K mg base "_law_kind" 5 2 (G_law_kind C) := by
  refine def_ok F hm b sc_law_kind rfl fun cdv A outer s H E hr => ?_
  unfold g_law_kind
  exact (is_bconsE (is_tryE sc_law_kind.nd takes0 (fun (W1 : WX) pn xe tk po => isB_t (is_bcons (is_ifS (is_tcmp op_notN r2_notN (is_v 0) is_non (nomark _)) (is_bone (is_drop (is_callDX d_check_problem (hr.mono (by first | decide | exact Nat.le_refl _)) tk (is_acons (is_ix (hu_of hr) (is_v 0) is_int) is_anil)))) is_bnil)
      (is_bone (is_ifS (is_tcmp op_notN r2_notN (is_v 1) is_non (nomark _)) (is_bone (is_drop (is_callDX d_check_setup (hr.mono (by first | decide | exact Nat.le_refl _)) tk (is_acons (is_ix (hu_of hr) (is_v 1) is_int) is_anil)))) is_bnil))) (by dsimp only [Cx.tr] <;> exact rfl)) (hs_add (fun l r => ⟨_, (hs_one (i := 2) (D := C.BadProblem_) (by rfl) (by rfl) ⟨by rfl, by decide, .inl CO.BadProblem_.gC⟩ (mm_BadProblem CO) (fun a oe pn hz hf => isB_t (is_bone (is_ret (is_ix (by have h := hu_of hr; exact h) (is_l (is_lst (is_acons is_str (is_acons is_str is_anil)))) (is_int1 B.int_ (is_eand (is_isE (W := W0) 2 (D := C.BadProblem_) (b := true) CO.BadProblem_E hz hf (hcl := pe_glob (by rfl) CO.AheadError_.gC rfl (by decide)) (c := V.ref C.AheadError_) (cv := .ref C.AheadError_) (hrel := fun u h => h) (hk := CO.kit_BadProblem_AheadError) (hm := B.isinstance_) (hv := (is_v (X := Cx.suite _ a _) (W := W0) 2).pe)) (is_eand1 (is_isE (W := W0) 2 (D := C.BadProblem_) (b := true) CO.BadProblem_E hz hf (hcl := pe_bltn (by rfl) B.ValueError_ (by decide +kernel) rfl (by decide) (by decide)) (c := V.ty "ValueError") (cv := .type "ValueError") (hrel := fun u h => h) (hk := CO.kit_BadProblem_ValueError) (hm := B.isinstance_) (hv := (is_v (X := Cx.suite _ a _) (W := W0) 2).pe)))))))) (by dsimp only [Cx.suite] <;> exact rfl)) (ind_law_kind_BadProblem C) r).choose_spec⟩) (hs_add (fun l r => ⟨_, (hs_one (i := 2) (D := C.BadSetup_) (by rfl) (by rfl) ⟨by rfl, by decide, .inl CO.BadSetup_.gC⟩ (mm_BadSetup CO) (fun a oe pn hz hf => isB_t (is_bone (is_ret (is_ix (by have h := hu_of hr; exact h) (is_l (is_lst (is_acons is_str (is_acons is_str is_anil)))) (is_int1 B.int_ (is_isE (W := W0) 2 (D := C.BadSetup_) (b := true) CO.BadSetup_E hz hf (hcl := pe_glob (by rfl) CO.AheadError_.gC rfl (by decide)) (c := V.ref C.AheadError_) (cv := .ref C.AheadError_) (hrel := fun u h => h) (hk := CO.kit_BadSetup_AheadError) (hm := B.isinstance_) (hv := (is_v (X := Cx.suite _ a _) (W := W0) 2).pe)))))) (by dsimp only [Cx.suite] <;> exact rfl)) (ind_law_kind_BadSetup C) r).choose_spec⟩) hs_nil)))
      (is_bone (is_ret is_str)))
/-! ### law -/
theorem sc_law : FnScope ["script", "stream", "problem", "setup", "rows", "batches", "divisor", "clip", "wrong", "value", "good", "sample", "bad", "most"] ["script"] (defScope s_law) := ⟨rfl, rfl, rfl, by decide +kernel, rfl, by decide +kernel, by decide +kernel⟩
abbrev lb_law_0 (C : Cl) : MS :=
  (sSetL (lCat (eVar 8) (eL (lLst (aCons (eTup (aCons (eVar 4) (aCons (eVar 5) (aCons (eVar 9) (aCons (eVar 7) aNil))))) (aCons (eTup (aCons (eVar 4) (aCons (eVar 5) (aCons (eVar 6) (aCons (eVar 9) aNil))))) aNil))))) 8)
abbrev lb_law_1 (C : Cl) : MS :=
  (sDrop (eM1V gApp 8 (eTup (aCons (eTup (aCons (eC (.int 5)) (aCons (eC (.int 6)) aNil))) (aCons (eTup (aCons (eTup (aCons (eVar 10) aNil)) (aCons (eTup (aCons (eVar 10) (aCons (eVar 11) aNil))) aNil))) (aCons (eC (.int 1)) (aCons (eC (.int 1)) aNil)))))))
abbrev lb_law_2 (C : Cl) : MS :=
  (sIf (tOf (eOp gNe (eCall 2 (G_law_kind C) (aCons (eTup (aCons (eVar 12) aNil)) (aCons (eC .non) aNil))) (eC (.str "problem")))) (sRet (eC (.bl false))) sNext)
abbrev lb_law_3 (C : Cl) : MS :=
  (sIf (tOf (eOp gNe (eCall 2 (G_law_kind C) (aCons (eC .non) (aCons (eTup (aCons (eVar 12) aNil)) aNil))) (eC (.str "setup")))) (sRet (eC (.bl false))) sNext)
def g_law (C : Cl) : MS :=
  (sSeq (sAsg (eCall 3 G_law_stream (aCons (eVar 0) (aCons (eC (.int 0)) (aCons (eC (.int 20)) aNil)))) (gSet 1))
  (sSeq (sAsg (eCall 2 G_law_problem (aCons (eVar 1) (aCons (eC (.int 9)) aNil))) (gSet 2))
  (sSeq (sAsg (eCall 1 G_law_setup (aCons (eVar 1) aNil)) (gSet 3))
  (sSeq (sIf (tOf (eOp gNe (eCall 2 (G_law_kind C) (aCons (eTup (aCons (eVar 2) aNil)) (aCons (eTup (aCons (eVar 3) aNil)) aNil))) (eC (.str "done")))) (sRet (eC (.bl false))) sNext)
  (sSeq (sAsg (eVar 2) (gTupD 4 (gsCons (gSet 4) (gsCons (gSet 5) (gsCons (gSet 6) (gsCons (gSet 7) gsNil))))))
  (sSeq (sSetL (lLst (aCons (eC .non) (aCons (eL (lCB gList (aCons (eVar 2) aNil))) (aCons (eSl (eVar 2) (ret none) (bnd (eC (.int 3)) fun x => lft ((toI x).map some))) (aCons (eOp gAdd (eVar 2) (eTup (aCons (eC (.int 1)) aNil))) (aCons (eTup (aCons (eL (lCB gList (aCons (eVar 4) aNil))) (aCons (eVar 5) (aCons (eVar 6) (aCons (eVar 7) aNil))))) (aCons (eTup (aCons (eTup aNil) (aCons (eVar 5) (aCons (eVar 6) (aCons (eVar 7) aNil))))) (aCons (eTup (aCons (eOp gMulX (eTup (aCons (eC (.int 0)) aNil)) (eC (.int 21))) (aCons (eTup (aCons (eTup aNil) aNil)) (aCons (eC (.int 1)) (aCons (eC (.int 1)) aNil))))) aNil)))))))) 8)
  (sSeq (sSetL (lCat (eVar 8) (eL (lLst (aCons (eTup (aCons (eTup (aCons (eC (.int 1000001)) aNil)) (aCons (eTup (aCons (eTup aNil) aNil)) (aCons (eC (.int 1)) (aCons (eC (.int 1)) aNil))))) (aCons (eTup (aCons (eTup (aCons (eUn gNeg (eC (.int 1000001))) aNil)) (aCons (eTup (aCons (eTup aNil) aNil)) (aCons (eC (.int 1)) (aCons (eC (.int 1)) aNil))))) (aCons (eTup (aCons (eTup (aCons (eC (.str "0")) aNil)) (aCons (eTup (aCons (eTup aNil) aNil)) (aCons (eC (.int 1)) (aCons (eC (.int 1)) aNil))))) (aCons (eTup (aCons (eTup (aCons (eC .non) aNil)) (aCons (eTup (aCons (eTup aNil) aNil)) (aCons (eC (.int 1)) (aCons (eC (.int 1)) aNil))))) (aCons (eTup (aCons (eVar 4) (aCons (eL (lCB gList (aCons (eVar 5) aNil))) (aCons (eVar 6) (aCons (eVar 7) aNil))))) aNil)))))))) 8)
  (sSeq (sSetL (lCat (eVar 8) (eL (lLst (aCons (eTup (aCons (eVar 4) (aCons (eTup aNil) (aCons (eVar 6) (aCons (eVar 7) aNil))))) (aCons (eTup (aCons (eVar 4) (aCons (eOp gMulX (eTup (aCons (eTup aNil) aNil)) (eC (.int 21))) (aCons (eVar 6) (aCons (eVar 7) aNil))))) (aCons (eTup (aCons (eVar 4) (aCons (eOp gAdd (eSl (eVar 5) (ret none) (bnd (eC (.int 1)) fun x => lft ((toI x).map some))) (eTup (aCons (eC .non) aNil))) (aCons (eVar 6) (aCons (eVar 7) aNil))))) (aCons (eTup (aCons (eVar 4) (aCons (eTup (aCons (eL (lLst aNil)) aNil)) (aCons (eVar 6) (aCons (eVar 7) aNil))))) aNil))))))) 8)
  (sSeq (sFor (iOf (eL (lLst (aCons (eC (.int 0)) (aCons (eC (.int 1001)) (aCons (eUn gNeg (eC (.int 1))) (aCons (eC .non) (aCons (eC (.str "2")) aNil)))))))) (gSet 9) (lb_law_0 C))
  (sSeq (sAsg (eTup (aCons (eTup (aCons (eC (.int 0)) (aCons (eC (.int 1)) aNil))) (aCons (eC (.int 3)) aNil))) (gSet 10))
  (sSeq (sFor (iOf (eL (lLst (aCons (eC .non) (aCons (eTup (aCons (eTup (aCons (eC (.int 0)) (aCons (eC (.int 1)) aNil))) aNil)) (aCons (eTup (aCons (eTup (aCons (eC (.int 0)) (aCons (eC (.int 1)) aNil))) (aCons (eC (.int 3)) (aCons (eC (.int 4)) aNil)))) (aCons (eL (lLst (aCons (eTup (aCons (eC (.int 0)) (aCons (eC (.int 1)) aNil))) (aCons (eC (.int 3)) aNil)))) (aCons (eTup (aCons (eL (lLst (aCons (eC (.int 0)) (aCons (eC (.int 1)) aNil)))) (aCons (eC (.int 3)) aNil))) (aCons (eTup (aCons (eTup aNil) (aCons (eC (.int 3)) aNil))) (aCons (eTup (aCons (eTup (aCons (eC (.int 0)) (aCons (eC (.int 0)) aNil))) (aCons (eC (.int 3)) aNil))) (aCons (eTup (aCons (eTup (aCons (eC (.int 0)) (aCons (eC (.int 2)) aNil))) (aCons (eC (.int 3)) aNil))) (aCons (eTup (aCons (eTup (aCons (eUn gNeg (eC (.int 1))) (aCons (eC (.int 0)) aNil))) (aCons (eC (.int 3)) aNil))) (aCons (eTup (aCons (eTup (aCons (eC (.int 0)) (aCons (eC (.int 1)) aNil))) (aCons (eC (.int 1000001)) aNil))) (aCons (eTup (aCons (eTup (aCons (eC (.int 0)) (aCons (eC (.int 1)) aNil))) (aCons (eUn gNeg (eC (.int 1000001))) aNil))) (aCons (eTup (aCons (eTup (aCons (eC (.int 0)) (aCons (eC (.int 1)) aNil))) (aCons (eC .non) aNil))) (aCons (eTup (aCons (eTup (aCons (eC (.int 0)) (aCons (eC (.str "1")) aNil))) (aCons (eC (.int 3)) aNil))) aNil)))))))))))))))) (gSet 11) (lb_law_1 C))
  (sSeq (sSetL (lCat (eVar 8) (eL (lLst (aCons (eTup (aCons (eOp gMulX (eTup (aCons (eC (.int 0)) aNil)) (eC (.int 5))) (aCons (eTup (aCons (eTup (aCons (eTup (aCons (eTup (aCons (eC (.int 0)) (aCons (eC (.int 1)) (aCons (eC (.int 2)) (aCons (eC (.int 3)) (aCons (eC (.int 4)) aNil)))))) (aCons (eC (.int 1)) aNil))) aNil)) aNil)) (aCons (eC (.int 1)) (aCons (eC (.int 1)) aNil))))) (aCons (eTup (aCons (eTup (aCons (eC (.int 5)) (aCons (eC (.int 6)) aNil))) (aCons (eTup (aCons (eOp gMulX (eTup (aCons (eVar 10) aNil)) (eC (.int 7))) aNil)) (aCons (eC (.int 1)) (aCons (eC (.int 1)) aNil))))) aNil))))) 8)
  (sSeq (sSetL (lCat (eVar 8) (eL (lLst (aCons (eTup (aCons (eTup (aCons (eC (.bl true)) aNil)) (aCons (eTup (aCons (eTup aNil) aNil)) (aCons (eC (.int 1)) (aCons (eC (.int 1)) aNil))))) (aCons (eTup (aCons (eVar 4) (aCons (eVar 5) (aCons (eC (.bl true)) (aCons (eVar 7) aNil))))) (aCons (eTup (aCons (eVar 4) (aCons (eVar 5) (aCons (eVar 6) (aCons (eC (.bl true)) aNil))))) (aCons (eTup (aCons (eTup (aCons (eC (.int 5)) (aCons (eC (.int 6)) aNil))) (aCons (eTup (aCons (eTup (aCons (eTup (aCons (eTup (aCons (eC (.int 0)) (aCons (eC (.int 1)) aNil))) (aCons (eC (.bl false)) aNil))) aNil)) aNil)) (aCons (eC (.int 1)) (aCons (eC (.int 1)) aNil))))) (aCons (eTup (aCons (eTup (aCons (eC (.int 5)) (aCons (eC (.int 6)) aNil))) (aCons (eTup (aCons (eTup (aCons (eTup (aCons (eTup (aCons (eC (.bl false)) (aCons (eC (.int 1)) aNil))) (aCons (eC (.int 3)) aNil))) aNil)) aNil)) (aCons (eC (.int 1)) (aCons (eC (.int 1)) aNil))))) aNil)))))))) 8)
  (sSeq (sFor (iOf (eVar 8)) (gSet 12) (lb_law_2 C))
  (sSeq (sFor (iOf (eL (lLst (aCons (eC .non) (aCons (eL (lCB gList (aCons (eVar 3) aNil))) (aCons (eSl (eVar 3) (ret none) (bnd (eC (.int 2)) fun x => lft ((toI x).map some))) (aCons (eOp gAdd (eVar 3) (eTup (aCons (eC (.int 1)) aNil))) (aCons (eTup (aCons (eC (.int 0)) (aCons (eC (.int 1)) (aCons (eC (.int 1)) aNil)))) (aCons (eTup (aCons (eC (.int 5)) (aCons (eC (.int 1)) (aCons (eC (.int 1)) aNil)))) (aCons (eTup (aCons (eC (.int 1)) (aCons (eC (.int 0)) (aCons (eC (.int 1)) aNil)))) (aCons (eTup (aCons (eC (.int 1)) (aCons (eC (.int 21)) (aCons (eC (.int 1)) aNil)))) (aCons (eTup (aCons (eC (.int 1)) (aCons (eC (.int 1)) (aCons (eC (.int 0)) aNil)))) (aCons (eTup (aCons (eC (.int 1)) (aCons (eC (.int 1)) (aCons (eC (.int 21)) aNil)))) (aCons (eTup (aCons (eC (.str "1")) (aCons (eC (.int 1)) (aCons (eC (.int 1)) aNil)))) (aCons (eTup (aCons (eC (.int 1)) (aCons (eC .non) (aCons (eC (.int 1)) aNil)))) (aCons (eTup (aCons (eC (.bl true)) (aCons (eC (.int 1)) (aCons (eC (.int 1)) aNil)))) (aCons (eTup (aCons (eC (.int 1)) (aCons (eC (.bl true)) (aCons (eC (.int 1)) aNil)))) (aCons (eTup (aCons (eC (.int 1)) (aCons (eC (.int 1)) (aCons (eC (.bl true)) aNil)))) aNil)))))))))))))))))) (gSet 12) (lb_law_3 C))
  (sSeq (sAsg (eTup (aCons (eOp gMulX (eTup (aCons (eC (.int 1000000)) aNil)) (eC (.int 20))) (aCons (eOp gMulX (eTup (aCons (eOp gMulX (eTup (aCons (eTup (aCons (eTup (aCons (eC (.int 0)) (aCons (eC (.int 19)) (aCons (eC (.int 5)) (aCons (eC (.int 7)) aNil))))) (aCons (eUn gNeg (eC (.int 1000000))) aNil))) aNil)) (eC (.int 6))) aNil)) (eC (.int 20))) (aCons (eC (.int 1000)) (aCons (eC (.int 1000)) aNil))))) (gSet 13))
  (sRet (bnd (tOf (eOp gEq (eCall 2 (G_law_kind C) (aCons (eTup (aCons (eVar 13) aNil)) (aCons (eTup (aCons (eTup (aCons (eC (.int 4)) (aCons (eC (.int 20)) (aCons (eC (.int 20)) aNil)))) aNil)) aNil))) (eC (.str "done")))) fun b => if b then (eOp gEq (eCall 2 (G_law_kind C) (aCons (eTup (aCons (eTup (aCons (eTup (aCons (eUn gNeg (eC (.int 1000000))) aNil)) (aCons (eTup (aCons (eTup aNil) aNil)) (aCons (eC (.int 1)) (aCons (eC (.int 1)) aNil))))) aNil)) (aCons (eTup (aCons (eTup (aCons (eC (.int 1)) (aCons (eC (.int 1)) (aCons (eC (.int 1)) aNil)))) aNil)) aNil))) (eC (.str "done"))) else ret (.d (.bl false))))))))))))))))))))
def G_law (C : Cl) : Fn := fnG 14 (g_law C)
theorem d_law {P : Program} {w : World} {K : PySem.W.Frag} {mg : Str → Option Value} {base : Heap} {fA : Addr} {fd : FuncData} (B : Bl mg) {C : Cl} (CO : ClOk K mg C) (d_law_stream : DefOk P w K mg base "_law_stream" 2 3 (G_law_stream)) (d_law_problem : DefOk P w K mg base "_law_problem" 2 2 (G_law_problem)) (d_law_setup : DefOk P w K mg base "_law_setup" 2 1 (G_law_setup)) (d_law_kind : DefOk P w K mg base "_law_kind" 5 2 ((G_law_kind C))) (F : Fun K "law" "law" s_law fA fd) : FnOk P w K mg base CX0 6 fA fd ["script"] (spF K 1 (G_law C)) := by
  refine fn_ok F sc_law fun cdv A outer s H E hr => ?_
  unfold g_law
  exact ⟨_, (is_bcons (is_set 1 sc_law.nd (is_callD d_law_stream (hr.mono (by first | decide | exact Nat.le_refl _)) fnG_ne (is_acons (is_v 0) (is_acons is_int (is_acons is_int is_anil)))))
      (is_bcons (is_set 2 sc_law.nd (is_callD d_law_problem (hr.mono (by first | decide | exact Nat.le_refl _)) fnG_ne (is_acons (is_v 1) (is_acons is_int is_anil))))
      (is_bcons (is_set 3 sc_law.nd (is_callD d_law_setup (hr.mono (by first | decide | exact Nat.le_refl _)) fnG_ne (is_acons (is_v 1) is_anil)))
      (is_bcons (is_ifS (is_tcmp (op_neX hr.units) r2_ne (is_callD d_law_kind (hr.mono (by first | decide | exact Nat.le_refl _)) fnG_ne (is_acons (is_tup (is_acons (is_v 2) is_anil)) (is_acons (is_tup (is_acons (is_v 3) is_anil)) is_anil))) is_str (nomark _)) (is_bone (is_ret is_bl)) is_bnil)
      (is_bcons (is_asg (is_v 2) (is_gtup (is_gscons (is_gname 4 sc_law.nd) (is_gscons (is_gname 5 sc_law.nd) (is_gscons (is_gname 6 sc_law.nd) (is_gscons (is_gname 7 sc_law.nd) is_gsnil))))))
      (is_bcons (is_setL 8 sc_law.nd (is_lst (is_acons is_non (is_acons (is_l (is_list B.list_ (is_v 2))) (is_acons (is_sl (is_v 2) is_onone (is_osome is_int)) (is_acons (is_add (is_v 2) (is_tup (is_acons is_int is_anil))) (is_acons (is_tup (is_acons (is_l (is_list B.list_ (is_v 4))) (is_acons (is_v 5) (is_acons (is_v 6) (is_acons (is_v 7) is_anil))))) (is_acons (is_tup (is_acons (is_tup is_anil) (is_acons (is_v 5) (is_acons (is_v 6) (is_acons (is_v 7) is_anil))))) (is_acons (is_tup (is_acons (is_mulX (is_tup (is_acons is_int is_anil)) is_int) (is_acons (is_tup (is_acons (is_tup is_anil) is_anil)) (is_acons is_int (is_acons is_int is_anil))))) is_anil)))))))))
      (is_bcons (is_setL 8 sc_law.nd (is_lcat (is_v 8) (is_l (is_lst (is_acons (is_tup (is_acons (is_tup (is_acons is_int is_anil)) (is_acons (is_tup (is_acons (is_tup is_anil) is_anil)) (is_acons is_int (is_acons is_int is_anil))))) (is_acons (is_tup (is_acons (is_tup (is_acons (is_neg is_int) is_anil)) (is_acons (is_tup (is_acons (is_tup is_anil) is_anil)) (is_acons is_int (is_acons is_int is_anil))))) (is_acons (is_tup (is_acons (is_tup (is_acons is_str is_anil)) (is_acons (is_tup (is_acons (is_tup is_anil) is_anil)) (is_acons is_int (is_acons is_int is_anil))))) (is_acons (is_tup (is_acons (is_tup (is_acons is_non is_anil)) (is_acons (is_tup (is_acons (is_tup is_anil) is_anil)) (is_acons is_int (is_acons is_int is_anil))))) (is_acons (is_tup (is_acons (is_v 4) (is_acons (is_l (is_list B.list_ (is_v 5))) (is_acons (is_v 6) (is_acons (is_v 7) is_anil))))) is_anil)))))))))
      (is_bcons (is_setL 8 sc_law.nd (is_lcat (is_v 8) (is_l (is_lst (is_acons (is_tup (is_acons (is_v 4) (is_acons (is_tup is_anil) (is_acons (is_v 6) (is_acons (is_v 7) is_anil))))) (is_acons (is_tup (is_acons (is_v 4) (is_acons (is_mulX (is_tup (is_acons (is_tup is_anil) is_anil)) is_int) (is_acons (is_v 6) (is_acons (is_v 7) is_anil))))) (is_acons (is_tup (is_acons (is_v 4) (is_acons (is_add (is_sl (is_v 5) is_onone (is_osome is_int)) (is_tup (is_acons is_non is_anil))) (is_acons (is_v 6) (is_acons (is_v 7) is_anil))))) (is_acons (is_tup (is_acons (is_v 4) (is_acons (is_tup (is_acons (is_l (is_lst is_anil)) is_anil)) (is_acons (is_v 6) (is_acons (is_v 7) is_anil))))) is_anil))))))))
      (is_bcons (is_for PassesOwn.never (is_iseq (is_l (is_lst (is_acons is_int (is_acons is_int (is_acons (is_neg is_int) (is_acons is_non (is_acons is_str is_anil)))))))) (is_gname 9 sc_law.nd) (is_bone (is_setL 8 sc_law.nd (is_lcat (is_v 8) (is_l (is_lst (is_acons (is_tup (is_acons (is_v 4) (is_acons (is_v 5) (is_acons (is_v 9) (is_acons (is_v 7) is_anil))))) (is_acons (is_tup (is_acons (is_v 4) (is_acons (is_v 5) (is_acons (is_v 6) (is_acons (is_v 9) is_anil))))) is_anil))))))))
      (is_bcons (is_set 10 sc_law.nd (is_tup (is_acons (is_tup (is_acons is_int (is_acons is_int is_anil))) (is_acons is_int is_anil))))
      (is_bcons (is_for PassesOwn.never (is_iseq (is_l (is_lst (is_acons is_non (is_acons (is_tup (is_acons (is_tup (is_acons is_int (is_acons is_int is_anil))) is_anil)) (is_acons (is_tup (is_acons (is_tup (is_acons is_int (is_acons is_int is_anil))) (is_acons is_int (is_acons is_int is_anil)))) (is_acons (is_l (is_lst (is_acons (is_tup (is_acons is_int (is_acons is_int is_anil))) (is_acons is_int is_anil)))) (is_acons (is_tup (is_acons (is_l (is_lst (is_acons is_int (is_acons is_int is_anil)))) (is_acons is_int is_anil))) (is_acons (is_tup (is_acons (is_tup is_anil) (is_acons is_int is_anil))) (is_acons (is_tup (is_acons (is_tup (is_acons is_int (is_acons is_int is_anil))) (is_acons is_int is_anil))) (is_acons (is_tup (is_acons (is_tup (is_acons is_int (is_acons is_int is_anil))) (is_acons is_int is_anil))) (is_acons (is_tup (is_acons (is_tup (is_acons (is_neg is_int) (is_acons is_int is_anil))) (is_acons is_int is_anil))) (is_acons (is_tup (is_acons (is_tup (is_acons is_int (is_acons is_int is_anil))) (is_acons is_int is_anil))) (is_acons (is_tup (is_acons (is_tup (is_acons is_int (is_acons is_int is_anil))) (is_acons (is_neg is_int) is_anil))) (is_acons (is_tup (is_acons (is_tup (is_acons is_int (is_acons is_int is_anil))) (is_acons is_non is_anil))) (is_acons (is_tup (is_acons (is_tup (is_acons is_int (is_acons is_str is_anil))) (is_acons is_int is_anil))) is_anil)))))))))))))))) (is_gname 11 sc_law.nd) (is_bone (is_drop (is_appV 8 (is_tup (is_acons (is_tup (is_acons is_int (is_acons is_int is_anil))) (is_acons (is_tup (is_acons (is_tup (is_acons (is_v 10) is_anil)) (is_acons (is_tup (is_acons (is_v 10) (is_acons (is_v 11) is_anil))) is_anil))) (is_acons is_int (is_acons is_int is_anil)))))))))
      (is_bcons (is_setL 8 sc_law.nd (is_lcat (is_v 8) (is_l (is_lst (is_acons (is_tup (is_acons (is_mulX (is_tup (is_acons is_int is_anil)) is_int) (is_acons (is_tup (is_acons (is_tup (is_acons (is_tup (is_acons (is_tup (is_acons is_int (is_acons is_int (is_acons is_int (is_acons is_int (is_acons is_int is_anil)))))) (is_acons is_int is_anil))) is_anil)) is_anil)) (is_acons is_int (is_acons is_int is_anil))))) (is_acons (is_tup (is_acons (is_tup (is_acons is_int (is_acons is_int is_anil))) (is_acons (is_tup (is_acons (is_mulX (is_tup (is_acons (is_v 10) is_anil)) is_int) is_anil)) (is_acons is_int (is_acons is_int is_anil))))) is_anil))))))
      (is_bcons (is_setL 8 sc_law.nd (is_lcat (is_v 8) (is_l (is_lst (is_acons (is_tup (is_acons (is_tup (is_acons is_bl is_anil)) (is_acons (is_tup (is_acons (is_tup is_anil) is_anil)) (is_acons is_int (is_acons is_int is_anil))))) (is_acons (is_tup (is_acons (is_v 4) (is_acons (is_v 5) (is_acons is_bl (is_acons (is_v 7) is_anil))))) (is_acons (is_tup (is_acons (is_v 4) (is_acons (is_v 5) (is_acons (is_v 6) (is_acons is_bl is_anil))))) (is_acons (is_tup (is_acons (is_tup (is_acons is_int (is_acons is_int is_anil))) (is_acons (is_tup (is_acons (is_tup (is_acons (is_tup (is_acons (is_tup (is_acons is_int (is_acons is_int is_anil))) (is_acons is_bl is_anil))) is_anil)) is_anil)) (is_acons is_int (is_acons is_int is_anil))))) (is_acons (is_tup (is_acons (is_tup (is_acons is_int (is_acons is_int is_anil))) (is_acons (is_tup (is_acons (is_tup (is_acons (is_tup (is_acons (is_tup (is_acons is_bl (is_acons is_int is_anil))) (is_acons is_int is_anil))) is_anil)) is_anil)) (is_acons is_int (is_acons is_int is_anil))))) is_anil)))))))))
      (is_bcons (is_for PassesOwn.never (is_iseq (is_v 8)) (is_gname 12 sc_law.nd) (is_bone (is_ifS (is_tcmp (op_neX hr.units) r2_ne (is_callD d_law_kind (hr.mono (by first | decide | exact Nat.le_refl _)) fnG_ne (is_acons (is_tup (is_acons (is_v 12) is_anil)) (is_acons is_non is_anil))) is_str (nomark _)) (is_bone (is_ret is_bl)) is_bnil)))
      (is_bcons (is_for PassesOwn.never (is_iseq (is_l (is_lst (is_acons is_non (is_acons (is_l (is_list B.list_ (is_v 3))) (is_acons (is_sl (is_v 3) is_onone (is_osome is_int)) (is_acons (is_add (is_v 3) (is_tup (is_acons is_int is_anil))) (is_acons (is_tup (is_acons is_int (is_acons is_int (is_acons is_int is_anil)))) (is_acons (is_tup (is_acons is_int (is_acons is_int (is_acons is_int is_anil)))) (is_acons (is_tup (is_acons is_int (is_acons is_int (is_acons is_int is_anil)))) (is_acons (is_tup (is_acons is_int (is_acons is_int (is_acons is_int is_anil)))) (is_acons (is_tup (is_acons is_int (is_acons is_int (is_acons is_int is_anil)))) (is_acons (is_tup (is_acons is_int (is_acons is_int (is_acons is_int is_anil)))) (is_acons (is_tup (is_acons is_str (is_acons is_int (is_acons is_int is_anil)))) (is_acons (is_tup (is_acons is_int (is_acons is_non (is_acons is_int is_anil)))) (is_acons (is_tup (is_acons is_bl (is_acons is_int (is_acons is_int is_anil)))) (is_acons (is_tup (is_acons is_int (is_acons is_bl (is_acons is_int is_anil)))) (is_acons (is_tup (is_acons is_int (is_acons is_int (is_acons is_bl is_anil)))) is_anil)))))))))))))))))) (is_gname 12 sc_law.nd) (is_bone (is_ifS (is_tcmp (op_neX hr.units) r2_ne (is_callD d_law_kind (hr.mono (by first | decide | exact Nat.le_refl _)) fnG_ne (is_acons is_non (is_acons (is_tup (is_acons (is_v 12) is_anil)) is_anil))) is_str (nomark _)) (is_bone (is_ret is_bl)) is_bnil)))
      (is_bcons (is_set 13 sc_law.nd (is_tup (is_acons (is_mulX (is_tup (is_acons is_int is_anil)) is_int) (is_acons (is_mulX (is_tup (is_acons (is_mulX (is_tup (is_acons (is_tup (is_acons (is_tup (is_acons is_int (is_acons is_int (is_acons is_int (is_acons is_int is_anil))))) (is_acons (is_neg is_int) is_anil))) is_anil)) is_int) is_anil)) is_int) (is_acons is_int (is_acons is_int is_anil))))))
      (is_bone (is_ret (is_eand (is_cmp (op_eqX hr.units) r2_eq (is_callD d_law_kind (hr.mono (by first | decide | exact Nat.le_refl _)) fnG_ne (is_acons (is_tup (is_acons (is_v 13) is_anil)) (is_acons (is_tup (is_acons (is_tup (is_acons is_int (is_acons is_int (is_acons is_int is_anil)))) is_anil)) is_anil))) is_str (nomark _)) (is_eand1 (is_cmp (op_eqX hr.units) r2_eq (is_callD d_law_kind (hr.mono (by first | decide | exact Nat.le_refl _)) fnG_ne (is_acons (is_tup (is_acons (is_tup (is_acons (is_tup (is_acons (is_neg is_int) is_anil)) (is_acons (is_tup (is_acons (is_tup is_anil) is_anil)) (is_acons is_int (is_acons is_int is_anil))))) is_anil)) (is_acons (is_tup (is_acons (is_tup (is_acons is_int (is_acons is_int (is_acons is_int is_anil)))) is_anil)) is_anil))) is_str (nomark _))))))))))))))))))))))⟩
end Den

namespace Den
open PySem PySem.Spec PyProof.Rows L2
open Evl (Ex)
structure Pb where
  rows : List Int
  bs : List (List (List Int × Int))
  dv : Int
  cl : Int
abbrev Sm := List Int × Int
def smD (s : Sm) : D := .tup [.tup (il s.1), .int s.2]
def btD (b : List Sm) : D := .tup (b.map smD)
def pbD (p : Pb) : D := .tup [.tup (il p.rows), .tup (p.bs.map btD), .int p.dv, .int p.cl]
def okS (n : Nat) (s : Sm) : Prop := s.1 ≠ [] ∧ s.1.length ≤ 3 ∧ (∀ r ∈ s.1, 0 ≤ r ∧ r < n) ∧ s.1.Nodup ∧ -20 ≤ s.2 ∧ s.2 ≤ 20
theorem iota_range : ∀ (n : Nat) (lo : Int), iota lo n = (List.range n).map fun i => .int (lo + i)
  | 0, _ => rfl
  | n + 1, lo => by
    rw [iota, iota_range n, List.range_succ_eq_map, List.map_cons, List.map_map]
    congr 1
    · simp
    · refine List.map_congr_left fun i _ => ?_
      show D.int _ = D.int _
      congr 1
      simp
      omega
def okB (n : Nat) (b : List Sm) : Prop := b.length ≤ 5 ∧ ∀ s ∈ b, okS n s
structure okP (p : Pb) : Prop where
  n0 : 0 < p.rows.length
  n : p.rows.length ≤ 5
  r : ∀ r ∈ p.rows, -10 ≤ r ∧ r ≤ 10
  b0 : 0 < p.bs.length
  b : p.bs.length ≤ 20
  bs : ∀ b ∈ p.bs, okB p.rows.length b
  dv : 1 ≤ p.dv ∧ p.dv ≤ 3
  cl : 1 ≤ p.cl ∧ p.cl ≤ 6
def tpD (l : List Int) : D := .tup (il l)
theorem ixD_tp {l : List Int} {i : Int} (h0 : 0 ≤ i) (h1 : i < l.length) : ixD (tpD l) (.int i) = some (.int (l.getD i.toNat 0)) := atI_il h0 h1
theorem ixD_ls {l : List Int} {i : Int} (h0 : 0 ≤ i) (h1 : i < l.length) : ixD (.lst (il l)) (.int i) = some (.int (l.getD i.toNat 0)) := atI_il h0 h1
/-! ### the draws -/
def wS (dg : List Int) (pl : Int) : List WO := [.lst [.d (.int pl)], .lst [.d (.lst (il dg)), .h 0]]
theorem next_ok {dg : List Int} {pl many : Int} (hd : dg ≠ []) (hm : 0 < many) : ∃ v, 0 ≤ v ∧ v < many ∧ G_law_next [.h 1, .d (.int many)] (wS dg pl) = some (.ok (.d (.int v)), wS dg (pl + 1)) := by
  have hl : 0 < dg.length := List.length_pos_iff.mpr hd
  have hp : (0 : Int) < (il dg).length := by rw [il_len]; omega
  have h0 : 0 ≤ pl % ((il dg).length : Int) := Int.emod_nonneg _ (by omega)
  have h1 : pl % ((il dg).length : Int) < dg.length := by
    have := Int.emod_lt_of_pos pl hp
    rw [il_len] at this ⊢
    exact this
  refine ⟨(dg.getD (pl % ((il dg).length : Int)).toNat 0) % many, Int.emod_nonneg _ (by omega), Int.emod_lt_of_pos _ hm, ?_⟩
  exact fnG_rt (q := ⟨_, wS dg (pl + 1)⟩) (sSeq_to (sAsg_ok (eIx_ok rfl rfl rfl) rfl) (sSeq_to (sAsg_ok (eIx_ok rfl rfl rfl) rfl) (sSeq_to (sAsg_ok (eOp_ok (eCB1_ok (eIx_d rfl (eOp_ok (eCB1_ok (eIx_ok rfl rfl rfl) rfl) (eCB1_ok rfl rfl) (by rw [gMod, gI]; simp only [if_pos hp]; rfl)) (ixD_ls h0 h1)) rfl) rfl (by rw [gMod, gI]; simp only [if_pos hm]; rfl)) rfl) (sSeq_to (by rfl) (sRet_ok rfl)))))
theorem gMul_ok {i j : Int} (h : -18446744073709551616 < j ∧ j < 18446744073709551616) : gMul (.int i) (.int j) = some (.int (i * j)) := by
  have e : mulOk i j = true := by
    unfold mulOk
    have h64 : (2 : Int) ^ 64 = 18446744073709551616 := by decide
    rw [h64]
    exact decide_eq_true (Or.inr h)
  unfold gMul gI
  simp only [e]
  rfl
theorem gMod_ok {i j : Int} (h : 0 < j) : gMod (.int i) (.int j) = some (.int (i % j)) := by
  unfold gMod gI
  simp only [if_pos h]
  rfl
theorem il_app {l : List Int} {x : Int} : il l ++ [.int x] = il (l ++ [x]) := by simp [il]
theorem small_lt {n k : Nat} (h : n < k) (hk : k ≤ 100000) : n < big := Nat.lt_of_lt_of_le h hk
theorem app_il {l : List Int} {x : Int} (h : l.length < 100000) : gApp (il l) (.int x) = some (.non, il (l ++ [x])) := by
  rw [gApp_ok (by rw [il_len]; exact h), il_app]
theorem draws_ok (c : Int) (w : List WO) : ∃ l : List Int, l.length = 12 ∧ G_law_draws [.d (.int c), .d (.int 12)] w = some (.ok (.d (.lst (il l))), w) := by
  obtain ⟨num, hn⟩ : ∃ num, num = if c < 0 then -c else c := ⟨_, rfl⟩
  obtain ⟨gr, hg⟩ : ∃ gr, gr = decide (((10 : Int) ^ 18) ≤ num) := ⟨_, rfl⟩
  have hl : ∃ l num' x5 x6, l.length = 12 ∧ loopD (gSet 5) lb_law_draws_0 (iota 0 60) ⟨[.dat (.int c), .dat (.int 12), .dat (.int num), .dat (.bl gr), .ol [], .un, .un], w⟩ = some (.nx ⟨[.dat (.int c), .dat (.int 12), .dat (.int num'), .dat (.bl gr), .ol (il l), x5, x6], w⟩) := by
    obtain ⟨q, h1, k, acc, num', x5, x6, h2, h3, h4, h5⟩ := loopD_inv (a := gSet 5) (g := lb_law_draws_0)
      (fun ds q => ∃ (k : Nat) (acc : List Int) (num : Int) (x5 x6 : Sl), k ≤ 60 ∧ ds = iota k (60 - k) ∧ q = ⟨[.dat (.int c), .dat (.int 12), .dat (.int num), .dat (.bl gr), .ol (il acc), x5, x6], w⟩ ∧ acc.length = min k 12)
      (fun d ds q ⟨k, acc, num, x5, x6, e1, e2, e3, e4⟩ => by
        have hk : k < 60 := by
          rcases Nat.lt_or_ge k 60 with h | h
          · exact h
          · rw [show 60 - k = 0 by omega] at e2
            cases e2
        obtain ⟨m, hm⟩ : ∃ m, 60 - k = m + 1 := ⟨59 - k, by omega⟩
        rw [hm, iota] at e2
        obtain ⟨rfl, rfl⟩ := List.cons.inj e2
        subst e3
        have hds : iota ((k : Int) + 1) m = iota ((k + 1 : Nat) : Int) (60 - (k + 1)) := by
          rw [show m = 60 - (k + 1) by omega]
          congr 1
        by_cases h12 : k < 12
        · have c1 : gC (fun i j => decide (i < j)) (.int (k : Int)) (.int 12) = some (.bl true) := by
            show some (D.bl (decide ((k : Int) < 12))) = _
            rw [decide_eq_true (by omega)]
          have hb : acc.length < 100000 := by omega
          cases gr with
          | true =>
            exact ⟨_, _, rfl, sIf_t (tAnd_t (tOf_ok (eOp_ok rfl rfl c1)) (tOf_ok rfl)) (sSeq_to (sDrop_ok (eM1V_ok rfl (eOp_ok rfl rfl (gMod_ok (by decide))) rfl (app_il hb))) (sAsg_ok (eOp_ok rfl rfl rfl) rfl)), k + 1, _, _, _, _, by omega, hds, rfl, by simp; omega⟩
          | false =>
            exact ⟨_, _, rfl, sIf_f (tAnd_t (tOf_ok (eOp_ok rfl rfl c1)) (tOf_ok rfl)) (sIf_t (tOf_ok (eOp_ok rfl rfl c1)) (sSeq_to (sAsg_ok (eOp_ok (eOp_ok (eOp_ok (eOp_ok (eCB1_ok rfl rfl) rfl (gMul_ok (by decide))) (eOp_ok rfl rfl (gMul_ok (by decide))) rfl) rfl rfl) rfl (gMod_ok (by decide))) rfl)
              (sSeq_to (sAsg_ok (eOp_ok (eOp_ok (eOp_ok (eOp_ok (eCB1_ok rfl rfl) (eCB1_ok rfl rfl) (gMul_ok ⟨by
                have := Int.emod_nonneg (num * 48271 + k * 69621 + 11) (b := 2147483647) (by decide)
                omega, by
                have := Int.emod_lt_of_pos (num * 48271 + k * 69621 + 11) (b := 2147483647) (by decide)
                omega⟩)) (eOp_ok rfl rfl (gMul_ok (by decide))) rfl) rfl rfl) rfl (gMod_ok (by decide))) rfl)
              (sDrop_ok (eM1V_ok rfl (eOp_ok (eCB1_ok rfl rfl) rfl (gMod_ok (by decide))) rfl (app_il hb)))))), k + 1, _, _, _, _, by omega, hds, rfl, by simp; omega⟩
        · have c1 : gC (fun i j => decide (i < j)) (.int (k : Int)) (.int 12) = some (.bl false) := by
            show some (D.bl (decide ((k : Int) < 12))) = _
            rw [decide_eq_false (by omega)]
          exact ⟨_, _, rfl, sIf_f (tAnd_f (tOf_ok (eOp_ok rfl rfl c1))) (sIf_f (tOf_ok (eOp_ok rfl rfl c1)) rfl), k + 1, acc, num, _, _, by omega, hds, rfl, by omega⟩)
      (iota 0 60) _ ⟨0, [], num, .un, .un, by omega, rfl, rfl, rfl⟩
    have hk : k = 60 := by
      rcases Nat.lt_or_ge k 60 with h | h
      · obtain ⟨m, hm⟩ : ∃ m, 60 - k = m + 1 := ⟨59 - k, by omega⟩
        rw [hm] at h3
        cases h3
      · omega
    subst hk
    exact ⟨acc, num', x5, x6, h5, h1.trans (by rw [h4])⟩
  obtain ⟨l, num', x5, x6, h1, h2⟩ := hl
  refine ⟨l, h1, ?_⟩
  have hr : (bnd (aCons (eC (.int 60)) aNil) fun xs => lft (rng1 xs)) ⟨[.dat (.int c), .dat (.int 12), .dat (.int num), .dat (.bl gr), .ol [], .un, .un], w⟩ = some (.ok (iota 0 60), ⟨[.dat (.int c), .dat (.int 12), .dat (.int num), .dat (.bl gr), .ol [], .un, .un], w⟩) := rng_len (n := 60) rfl (by omega)
  have hp : gPow (.int 10) (.int 18) = some (.int (10 ^ 18)) := by
    unfold gPow gI
    simp only []
    rw [if_pos (by decide)]
    rfl
  exact fnG_rt (q := ⟨_, w⟩) (sSeq_to (sAsg_ok (eCB1_ok (eCB1_ok rfl rfl) (by rw [gAbs, ← hn])) rfl) (sSeq_to (sAsg_ok (eOp_ok rfl (eOp_ok rfl rfl hp) (by rw [gC, ← hg])) rfl) (sSeq_to (sSetL_ok (lLst_ok rfl rfl (Nat.zero_le _)) (by exact (show 4 < 7 by decide))) (sSeq_to (sFor_ok hr h2) (sRet_ok rfl)))))
theorem cell_ok {sc : List Int} {k : Nat} {w : List WO} : ∃ c, G_law_cell [.d (.seq (il sc)), .d (.int k)] w = some (.ok (.d (.int c)), w) := by
  have hlen : gLen [.seq (il sc)] = some (.int sc.length) := congrArg (fun k : Nat => some (D.int k)) il_len
  by_cases h : k < sc.length
  · have c1 : gC (fun i j => decide (i < j)) (.int (k : Int)) (.int sc.length) = some (.bl true) := by
      show some (D.bl (decide ((k : Int) < sc.length))) = _
      rw [decide_eq_true (by omega)]
    have ki : ixD (.seq (il sc)) (.int (k : Int)) = some (.int (sc.getD (k : Int).toNat 0)) := atI_il (by omega) (by omega)
    have hs : sIf (tOf (eOp (gC fun i j => decide (i < j)) (eVar 1) (eCB gLen (aCons (eVar 0) aNil)))) (sRet (eCB gInt (aCons (eIx (eVar 0) (eVar 1)) aNil))) sNext (fnQ 2 [.d (.seq (il sc)), .d (.int k)] w) = some (.rt (.d (.int (sc.getD (k : Int).toNat 0))) (fnQ 2 [.d (.seq (il sc)), .d (.int k)] w)) :=
      sIf_t (tOf_ok (eOp_ok rfl (eCB1_ok rfl hlen) c1)) (sRet_ok (eCB1_ok (eIx_d rfl rfl ki) rfl))
    refine ⟨_, fnG_rt (q := fnQ 2 [.d (.seq (il sc)), .d (.int k)] w) (x := .d (.int (sc.getD (k : Int).toNat 0))) ?_⟩
    unfold g_law_cell
    simp only [sSeq, hs]
  · have c1 : gC (fun i j => decide (i < j)) (.int (k : Int)) (.int sc.length) = some (.bl false) := by
      show some (D.bl (decide ((k : Int) < sc.length))) = _
      rw [decide_eq_false (by omega)]
    exact ⟨0, fnG_rt (q := fnQ 2 [.d (.seq (il sc)), .d (.int k)] w) (sSeq_to (sIf_f (tOf_ok (eOp_ok rfl (eCB1_ok rfl hlen) c1)) rfl) (sRet_ok rfl))⟩
theorem ext_il {l m : List Int} (h : l.length + m.length ≤ 100000) : gExt (il l) (.lst (il m)) = some (.non, il (l ++ m)) := by
  show (if (il l).length + (il m).length ≤ big then some (D.non, il l ++ il m) else none) = _
  rw [if_pos (show (il l).length + (il m).length ≤ big by rw [il_len, il_len]; exact h)]
  simp [il]
theorem stream_ok (sc : List Int) : ∃ dg : List Int, dg ≠ [] ∧ G_law_stream [.d (.seq (il sc)), .d (.int 0), .d (.int 20)] [] = some (.ok (.h 1), wS dg 0) := by
  have hl : ∃ l x4, l.length = 240 ∧ loopD (gSet 4) lb_law_stream_0 (iota 0 20) ⟨[.dat (.seq (il sc)), .dat (.int 0), .dat (.int 20), .ol [], .un], []⟩ = some (.nx ⟨[.dat (.seq (il sc)), .dat (.int 0), .dat (.int 20), .ol (il l), x4], []⟩) := by
    obtain ⟨q, h1, k, acc, x4, h2, h3, h4, h5⟩ := loopD_inv (a := gSet 4) (g := lb_law_stream_0)
      (fun ds q => ∃ (k : Nat) (acc : List Int) (x4 : Sl), k ≤ 20 ∧ ds = iota k (20 - k) ∧ q = ⟨[.dat (.seq (il sc)), .dat (.int 0), .dat (.int 20), .ol (il acc), x4], []⟩ ∧ acc.length = 12 * k)
      (fun d ds q ⟨k, acc, x4, e1, e2, e3, e4⟩ => by
        have hk : k < 20 := by
          rcases Nat.lt_or_ge k 20 with h | h
          · exact h
          · rw [show 20 - k = 0 by omega] at e2
            cases e2
        obtain ⟨m, hm⟩ : ∃ m, 20 - k = m + 1 := ⟨19 - k, by omega⟩
        rw [hm, iota] at e2
        obtain ⟨rfl, rfl⟩ := List.cons.inj e2
        subst e3
        have hds : iota ((k : Int) + 1) m = iota ((k + 1 : Nat) : Int) (20 - (k + 1)) := by
          rw [show m = 20 - (k + 1) by omega]
          congr 1
        obtain ⟨c, hc⟩ := cell_ok (sc := sc) (k := k) (w := [])
        obtain ⟨l, hl, hdr⟩ := draws_ok c []
        have ha : gAdd (.int 0) (.int (k : Int)) = some (.int (k : Int)) := by
          show some (D.int (0 + (k : Int))) = _
          rw [Int.zero_add]
        exact ⟨_, _, rfl, sDrop_ok (eM1V_ok rfl (eCall_w (aCons_ok (eCall_w (aCons_ok rfl (aCons_ok (eOp_ok rfl rfl ha) rfl)) rfl hc) (aCons_ok rfl rfl)) rfl hdr) rfl (ext_il (by omega))), k + 1, _, _, by omega, hds, rfl, by simp; omega⟩)
      (iota 0 20) _ ⟨0, [], .un, by omega, rfl, rfl, rfl⟩
    have hk : k = 20 := by
      rcases Nat.lt_or_ge k 20 with h | h
      · obtain ⟨m, hm⟩ : ∃ m, 20 - k = m + 1 := ⟨19 - k, by omega⟩
        rw [hm] at h3
        cases h3
      · omega
    subst hk
    exact ⟨acc, x4, h5, h1.trans (by rw [h4])⟩
  obtain ⟨l, x4, h1, h2⟩ := hl
  refine ⟨l, ?_, ?_⟩
  · intro z
    rw [z] at h1
    cases h1
  have hr : (bnd (aCons (eVar 2) aNil) fun xs => lft (rng1 xs)) ⟨[.dat (.seq (il sc)), .dat (.int 0), .dat (.int 20), .ol [], .un], []⟩ = some (.ok (iota 0 20), ⟨[.dat (.seq (il sc)), .dat (.int 0), .dat (.int 20), .ol [], .un], []⟩) := rng_len (n := 20) rfl (by omega)
  exact fnG_rt (q := ⟨[.dat (.seq (il sc)), .dat (.int 0), .dat (.int 20), .dat (.lst (il l)), x4], wS l 0⟩) (sSeq_to (sSetL_ok (lLst_ok rfl rfl (Nat.zero_le _)) (by exact (show 3 < 5 by decide))) (sSeq_to (sFor_ok hr h2) (sRet_ok rfl)))
theorem eNext {fa : ME (List XV)} {q q1 : Stt} {dg : List Int} {pl many : Int} (hd : dg ≠ []) (hm : 0 < many) (h : fa q = some (.ok [.h 1, .d (.int many)], q1)) (hw : q1.w = wS dg pl) :
    ∃ v, 0 ≤ v ∧ v < many ∧ eCall 2 G_law_next fa q = some (.ok (.d (.int v)), { q1 with w := wS dg (pl + 1) }) := by
  obtain ⟨v, h0, h1, h2⟩ := next_ok (dg := dg) (pl := pl) hd hm
  rw [← hw] at h2
  exact ⟨v, h0, h1, eCall_ok h rfl h2⟩
theorem to_ilP {P : Int → Prop} : ∀ (xs : List D), (∀ x ∈ xs, ∃ i, x = .int i ∧ P i) → ∃ l, xs = il l ∧ ∀ i ∈ l, P i
  | [], _ => ⟨[], rfl, by simp⟩
  | x :: xs, h => by
    obtain ⟨i, rfl, hi⟩ := h x (by simp)
    obtain ⟨l, rfl, hl⟩ := to_ilP xs fun y m => h y (by simp [m])
    exact ⟨i :: l, rfl, by simpa using ⟨hi, hl⟩⟩
theorem to_il : ∀ (xs : List D), (∀ x ∈ xs, ∃ i, x = .int i) → ∃ l, xs = il l
  | [], _ => ⟨[], rfl⟩
  | x :: xs, h => by
    obtain ⟨i, rfl⟩ := h x (by simp)
    obtain ⟨l, rfl⟩ := to_il xs fun y m => h y (by simp [m])
    exact ⟨i :: l, rfl⟩
theorem eCBV_ok {g : List D → Option D} {i : Nat} {q : Stt} {d z : D} (h : peek q i = some d) (h1 : g [d] = some z) : eCBV g i q = some (.ok (.d z), q) := by
  simp only [eCBV, h, Option.bind, h1, Option.map]
theorem erase_il : ∀ (l : List Int) (k : Nat), (il l).eraseIdx k = il (l.eraseIdx k)
  | [], _ => rfl
  | x :: l, 0 => rfl
  | x :: l, k + 1 => by
    show D.int x :: (il l).eraseIdx k = _
    rw [erase_il l k]
    rfl
theorem erase_perm : ∀ (l : List Int) (k : Nat), k < l.length → (l.getD k 0 :: l.eraseIdx k).Perm l
  | [], _, h => by cases h
  | x :: l, 0, _ => List.Perm.refl _
  | x :: l, k + 1, h => (List.Perm.swap _ _ _).trans ((erase_perm l k (by simpa using h)).cons x)
theorem pop_il {l : List Int} {v : Int} (h0 : 0 ≤ v) (h1 : v < l.length) (hb : l.length ≤ 100000) : gPopAt (il l) (.int v) = some (.int (l.getD v.toNat 0), il (l.eraseIdx v.toNat)) := by
  have hv : v.toNat < l.length := by omega
  show (if 0 ≤ v ∧ v < (il l).length ∧ (il l).length ≤ big then _ else _) = _
  rw [if_pos ⟨h0, by rw [il_len]; exact h1, by rw [il_len]; exact hb⟩]
  have e : (il l)[v.toNat]? = some (.int (l.getD v.toNat 0)) := by simp [il, hv]
  rw [e, erase_il]
  rfl
theorem lRng_ok {f : ME XV} {q q1 : Stt} {n : Nat} (h : f q = some (.ok (.d (.int n)), q1)) (hn : n ≤ 100000) : lRng f q = some (.ok (iota 0 n), q1) := by
  have h62 : -(2 ^ 62 : Int) ≤ (n : Int) ∧ (n : Int) ≤ 100000 := ⟨(rng_in hn).1, by omega⟩
  have e : lft (if -(2 ^ 62 : Int) ≤ (n : Int) ∧ (n : Int) ≤ 100000 then some (iota 0 (Int.toNat n)) else none) q1 = some (.ok (iota 0 n), q1) := by
    rw [if_pos h62, Int.toNat_natCast]
    rfl
  unfold lRng
  exact bnd_of h e
theorem sSetL_to {f : ME (List D)} {i : Nat} {q q1 q2 : Stt} {ds : List D} (h : f q = some (.ok ds, q1)) (hi : i < q1.sl.length) (e : ({ q1 with sl := q1.sl.set i (.ol ds) } : Stt) = q2) : sSetL f i q = some (.nx q2) := e ▸ sSetL_ok h hi
def ns (n : Nat) : List Int := (List.range n).map fun i : Nat => (i : Int)
theorem iota_ns {n : Nat} : iota 0 n = il (ns n) := by
  rw [iota_range, il, ns, List.map_map]
  refine List.map_congr_left fun i _ => ?_
  simp
theorem problem_0 {dg : List Int} {R : Nat} {x2 x3 x4 x5 x6 : Sl} {m : D} (hd : dg ≠ []) (ds : List D) (left : List Int) (pl : Int) (x9 : Sl) (hl : ∀ r ∈ left, 0 ≤ r ∧ r < R) (hnd : left.Nodup) (hn : ds.length ≤ left.length) (hb : left.length ≤ 100) (hds : ds.length ≤ 10) :
    ∃ left' chosen pl' x9', loopD (gSet 9) lb_law_problem_0 ds ⟨[.hnd 1, .dat m, x2, x3, x4, x5, x6, .ol (il left), .ol [], x9], wS dg pl⟩ = some (.nx ⟨[.hnd 1, .dat m, x2, x3, x4, x5, x6, .ol (il left'), .ol (il chosen), x9'], wS dg pl'⟩) ∧ chosen.length = ds.length ∧ (∀ r ∈ chosen, 0 ≤ r ∧ r < R) ∧ chosen.Nodup := by
  obtain ⟨q, h1, left', chosen, pl', x9', h2, h3, h4, h5, h6, h7, h8⟩ := loopD_inv (a := gSet 9) (g := lb_law_problem_0)
    (fun es q => ∃ (left chosen : List Int) (pl : Int) (x9 : Sl), q = ⟨[.hnd 1, .dat m, x2, x3, x4, x5, x6, .ol (il left), .ol (il chosen), x9], wS dg pl⟩ ∧ (∀ r ∈ left, 0 ≤ r ∧ r < R) ∧ (∀ r ∈ chosen, 0 ≤ r ∧ r < R) ∧ es.length ≤ left.length ∧ left.length ≤ 100 ∧ chosen.length + es.length = ds.length ∧ (left ++ chosen).Nodup)
    (fun d es q ⟨left, chosen, pl, x9, e1, e2, e3, e4, e5, e6, e7⟩ => by
      subst e1
      have hpos : 0 < left.length := by simp at e4; omega
      have hlen : gLen [.lst (il left)] = some (.int left.length) := congrArg (fun k : Nat => some (D.int k)) il_len
      obtain ⟨v, v0, v1, hv⟩ := eNext (fa := aCons (eVar 0) (aCons (eCBV gLen 7) aNil)) (q := ⟨[.hnd 1, .dat m, x2, x3, x4, x5, x6, .ol (il left), .ol (il chosen), toSl (.d d)], wS dg pl⟩) (pl := pl) hd (show (0 : Int) < left.length by omega) (aCons_ok rfl (aCons_ok (eCBV_ok rfl hlen) rfl)) rfl
      have hp := pop_il v0 v1 (by omega)
      have hmem : left.getD v.toNat 0 ∈ left := by
        have hv : v.toNat < left.length := by omega
        rw [List.getD_eq_getElem?_getD, List.getElem?_eq_getElem hv]
        exact List.getElem_mem _
      refine ⟨_, _, rfl, sDrop_ok (eM1V_ok rfl (eM1V_ok rfl hv rfl hp) rfl (app_il (by omega))), left.eraseIdx v.toNat, chosen ++ [left.getD v.toNat 0], pl + 1, _, rfl, fun r hr => e2 r (List.mem_of_mem_eraseIdx hr), ?_, ?_, ?_, ?_, ?_⟩
      · intro r hr
        rcases List.mem_append.mp hr with hr | hr
        · exact e3 r hr
        · rw [List.mem_singleton.mp hr]
          exact e2 _ hmem
      · rw [List.length_eraseIdx, if_pos (by omega)]
        simp at e4
        omega
      · rw [List.length_eraseIdx, if_pos (by omega)]
        omega
      · simp at e6 ⊢
        omega
      · have hv' : v.toNat < left.length := by omega
        have p1 := erase_perm left v.toNat hv'
        have p2 : (left.eraseIdx v.toNat ++ (chosen ++ [left.getD v.toNat 0])).Perm (left ++ chosen) :=
          ((List.perm_append_comm.append_left _).trans List.perm_middle).trans (p1.append_right chosen)
        exact p2.nodup_iff.mpr e7)
    ds _ ⟨left, [], pl, x9, rfl, hl, by simp, hn, hb, by simp, by simpa using hnd⟩
  exact ⟨left', chosen, pl', x9', h1.trans (by rw [h2]), by simpa using h7, h4, (List.nodup_append.mp h8).2.1⟩
theorem ns_mem {n : Nat} {r : Int} (h : r ∈ ns n) : 0 ≤ r ∧ r < n := by
  obtain ⟨i, hi, rfl⟩ := List.mem_map.mp h
  have := List.mem_range.mp hi
  exact ⟨by omega, by omega⟩
theorem ns_nd {n : Nat} : (ns n).Nodup := List.Pairwise.map _ (fun a b h z => h (Int.ofNat.inj z)) List.nodup_range
theorem ns_len {n : Nat} : (ns n).length = n := by simp [ns]
theorem gMin_nat {a b : Nat} : gMin [.int (a : Int), .int (b : Int)] = some (.int ((min a b : Nat) : Int)) := by
  show some (D.int (if (b : Int) < a then (b : Int) else a)) = _
  by_cases h : b < a
  · rw [if_pos (by omega), Nat.min_eq_right (by omega)]
  · rw [if_neg (by omega), Nat.min_eq_left (by omega)]
theorem gAdd1 {v : Int} (h : 0 ≤ v) : gAdd (.int 1) (.int v) = some (.int ((v.toNat + 1 : Nat) : Int)) := by
  show some (D.int (1 + v)) = _
  congr 2
  omega
theorem problem_1 {dg rows : List Int} {x3 x4 x5 : Sl} {m : D} (hd : dg ≠ []) (hR : 0 < rows.length) (hR2 : rows.length ≤ 10) (ds : List D) (pl : Int) (x2 x7 x8 x9 : Sl) (hds : ds.length ≤ 5) :
    ∃ (ss : List Sm) (pl' : Int) (x2' x7' x8' x9' : Sl), loopD (gSet 2) lb_law_problem_1 ds ⟨[.hnd 1, .dat m, x2, .dat (tpD rows), x4, x5, .ol [], x7, x8, x9], wS dg pl⟩ = some (.nx ⟨[.hnd 1, .dat m, x2', .dat (tpD rows), x4, x5, .ol (ss.map smD), x7', x8', x9'], wS dg pl'⟩) ∧ okB rows.length ss := by
  obtain ⟨q, h1, ss, pl', x2', x7', x8', x9', h2, h3, h4⟩ := loopD_inv (a := gSet 2) (g := lb_law_problem_1)
    (fun es q => ∃ (ss : List Sm) (pl : Int) (x2 x7 x8 x9 : Sl), q = ⟨[.hnd 1, .dat m, x2, .dat (tpD rows), x4, x5, .ol (ss.map smD), x7, x8, x9], wS dg pl⟩ ∧ (∀ s ∈ ss, okS rows.length s) ∧ ss.length + es.length ≤ 5)
    (fun d es q ⟨ss, pl, x2, x7, x8, x9, e1, e2, e3⟩ => by
      subst e1
      have hlen : gLen [tpD rows] = some (.int rows.length) := congrArg (fun k : Nat => some (D.int k)) il_len
      obtain ⟨v, v0, v1, hv⟩ := eNext (fa := aCons (eVar 0) (aCons (eC (.int 3)) aNil)) (q := ⟨[.hnd 1, .dat m, toSl (.d d), .dat (tpD rows), x4, x5, .ol (ss.map smD), .ol (il (ns rows.length)), .ol [], x9], wS dg pl⟩) (pl := pl) hd (show (0 : Int) < 3 by decide) (aCons_ok rfl (aCons_ok rfl rfl)) rfl
      obtain ⟨left', ch, pl2, x9', hl, hcl, hcm, hcn⟩ := problem_0 (dg := dg) (R := rows.length) (x2 := toSl (.d d)) (x3 := .dat (tpD rows)) (x4 := x4) (x5 := x5) (x6 := .ol (ss.map smD)) (m := m) hd (iota 0 (min rows.length (v.toNat + 1))) (ns rows.length) (pl + 1) x9 (fun r h => ns_mem h) ns_nd (by rw [iota_len, ns_len]; exact Nat.min_le_left _ _) (by rw [ns_len]; omega) (by rw [iota_len]; omega)
      rw [iota_len] at hcl
      obtain ⟨u, u0, u1, hu⟩ := eNext (fa := aCons (eVar 0) (aCons (eC (.int 41)) aNil)) (q := ⟨[.hnd 1, .dat m, toSl (.d d), .dat (tpD rows), x4, x5, .ol (ss.map smD), .ol (il left'), .ol (il ch), x9'], wS dg pl2⟩) (pl := pl2) hd (show (0 : Int) < 41 by decide) (aCons_ok rfl (aCons_ok rfl rfl)) rfl
      have h7 : sSetL (lRng (eCB gLen (aCons (eVar 3) aNil))) 7 ⟨[.hnd 1, .dat m, toSl (.d d), .dat (tpD rows), x4, x5, .ol (ss.map smD), x7, x8, x9], wS dg pl⟩ = some (.nx ⟨[.hnd 1, .dat m, toSl (.d d), .dat (tpD rows), x4, x5, .ol (ss.map smD), .ol (il (ns rows.length)), x8, x9], wS dg pl⟩) := by
        rw [← iota_ns]
        exact sSetL_to (lRng_ok (eCB1_ok rfl hlen) (by omega)) (by exact (show 7 < 10 by decide)) rfl
      have hss : (ss.map smD).length < big := by
        rw [List.length_map]
        simp at e3
        exact small_lt (show ss.length < 10 by omega) (by decide)
      have htu : eTup (aCons (eCBV gTuple 8) (aCons (eOp gMinus (eCall 2 G_law_next (aCons (eVar 0) (aCons (eC (.int 41)) aNil))) (eC (.int 20))) aNil)) ⟨[.hnd 1, .dat m, toSl (.d d), .dat (tpD rows), x4, x5, .ol (ss.map smD), .ol (il left'), .ol (il ch), x9'], wS dg pl2⟩
          = some (.ok (.d (smD (ch, u - 20))), ⟨[.hnd 1, .dat m, toSl (.d d), .dat (tpD rows), x4, x5, .ol (ss.map smD), .ol (il left'), .ol (il ch), x9'], wS dg (pl2 + 1)⟩) :=
        eTup_ok (aCons_ok (eCBV_ok rfl rfl) (aCons_ok (eOp_ok hu rfl rfl) rfl)) rfl (show 2 ≤ big by decide)
      refine ⟨_, _, rfl, sSeq_to h7 (sSeq_to (sSetL_ok (lLst_ok rfl rfl (Nat.zero_le _)) (by exact (show 8 < 10 by decide))) (sSeq_to (sFor_ok (rng_len (eCB2_ok (eCB1_ok rfl hlen) (eOp_ok rfl hv (gAdd1 v0)) gMin_nat) (by omega)) hl) (sDrop_ok (eM1V_ok rfl htu rfl (gApp_ok hss))))), ss ++ [(ch, u - 20)], pl2 + 1, toSl (.d d), .ol (il left'), .ol (il ch), x9', ?_, ?_, ?_⟩
      · rw [List.map_append]
        rfl
      · intro s hs
        rcases List.mem_append.mp hs with hs | hs
        · exact e2 s hs
        · rw [List.mem_singleton.mp hs]
          refine ⟨fun z => ?_, ?_, hcm, hcn, by show -20 ≤ u - 20; omega, by show u - 20 ≤ 20; omega⟩
          · have z' : ch = [] := z
            rw [z'] at hcl
            have : 0 = min rows.length (v.toNat + 1) := hcl
            omega
          · show ch.length ≤ 3
            omega
      · simp at e3 ⊢
        omega)
    ds _ ⟨[], pl, x2, x7, x8, x9, rfl, by simp, by simpa using hds⟩
  exact ⟨ss, pl', x2', x7', x8', x9', h1.trans (by rw [h2]), by simpa using h4, h3⟩
theorem sel7 {v : Int} (h0 : 0 ≤ v) (h1 : v < 7) : ∃ n : Nat, n ≤ 5 ∧ ixD (.lst (il [0, 1, 1, 2, 2, 3, 5])) (.int v) = some (.int n) := by
  have : v = 0 ∨ v = 1 ∨ v = 2 ∨ v = 3 ∨ v = 4 ∨ v = 5 ∨ v = 6 := by omega
  rcases this with rfl | rfl | rfl | rfl | rfl | rfl | rfl
  · exact ⟨0, by omega, rfl⟩
  · exact ⟨1, by omega, rfl⟩
  · exact ⟨1, by omega, rfl⟩
  · exact ⟨2, by omega, rfl⟩
  · exact ⟨2, by omega, rfl⟩
  · exact ⟨3, by omega, rfl⟩
  · exact ⟨5, by omega, rfl⟩
theorem problem_2 {dg rows : List Int} {x3 : Sl} {m : D} (hd : dg ≠ []) (hR : 0 < rows.length) (hR2 : rows.length ≤ 10) (ds : List D) (pl : Int) (x2 x5 x6 x7 x8 x9 : Sl) (hds : ds.length ≤ 20) :
    ∃ (bs : List (List Sm)) (pl' : Int) (x2' x5' x6' x7' x8' x9' : Sl), loopD (gSet 5) lb_law_problem_2 ds ⟨[.hnd 1, .dat m, x2, .dat (tpD rows), .ol [], x5, x6, x7, x8, x9], wS dg pl⟩ = some (.nx ⟨[.hnd 1, .dat m, x2', .dat (tpD rows), .ol (bs.map btD), x5', x6', x7', x8', x9'], wS dg pl'⟩) ∧ bs.length = ds.length ∧ ∀ b ∈ bs, okB rows.length b := by
  obtain ⟨q, h1, bs, pl', x2', x5', x6', x7', x8', x9', h2, h3, h4⟩ := loopD_inv (a := gSet 5) (g := lb_law_problem_2)
    (fun es q => ∃ (bs : List (List Sm)) (pl : Int) (x2 x5 x6 x7 x8 x9 : Sl), q = ⟨[.hnd 1, .dat m, x2, .dat (tpD rows), .ol (bs.map btD), x5, x6, x7, x8, x9], wS dg pl⟩ ∧ (∀ b ∈ bs, okB rows.length b) ∧ bs.length + es.length = ds.length)
    (fun d es q ⟨bs, pl, x2, x5, x6, x7, x8, x9, e1, e2, e3⟩ => by
      subst e1
      obtain ⟨v, v0, v1, hv⟩ := eNext (fa := aCons (eVar 0) (aCons (eC (.int 7)) aNil)) (q := ⟨[.hnd 1, .dat m, x2, .dat (tpD rows), .ol (bs.map btD), toSl (.d d), .ol [], x7, x8, x9], wS dg pl⟩) (pl := pl) hd (show (0 : Int) < 7 by decide) (aCons_ok rfl (aCons_ok rfl rfl)) rfl
      obtain ⟨n, hn, hi⟩ := sel7 v0 v1
      obtain ⟨ss, pl2, x2', x7', x8', x9', hl, hss⟩ := problem_1 (dg := dg) (rows := rows) (x3 := x3) (x4 := .ol (bs.map btD)) (x5 := toSl (.d d)) (m := m) hd hR hR2 (iota 0 n) (pl + 1) x2 x7 x8 x9 (by rw [iota_len]; omega)
      have hbs : (bs.map btD).length < big := by
        rw [List.length_map]
        simp at e3
        exact small_lt (show bs.length < 20 by omega) (by decide)
      refine ⟨_, _, rfl, sSeq_to (sSetL_ok (lLst_ok rfl rfl (Nat.zero_le _)) (by exact (show 6 < 10 by decide))) (sSeq_to (sFor_ok (rng_len (eIx_d (eL_ok (lLst_ok rfl rfl (show 7 ≤ big by decide))) hv hi) (by omega)) hl) (sDrop_ok (eM1V_ok rfl (eCBV_ok rfl rfl) rfl (gApp_ok hbs)))), bs ++ [ss], pl2, x2', toSl (.d d), .ol (ss.map smD), x7', x8', x9', ?_, ?_, ?_⟩
      · rw [List.map_append]
        rfl
      · intro b hb
        rcases List.mem_append.mp hb with hb | hb
        · exact e2 b hb
        · rw [List.mem_singleton.mp hb]
          exact hss
      · simp at e3 ⊢
        omega)
    ds _ ⟨[], pl, x2, x5, x6, x7, x8, x9, rfl, by simp, by simp⟩
  exact ⟨bs, pl', x2', x5', x6', x7', x8', x9', h1.trans (by rw [h2]), by simpa using h4, h3⟩
theorem problem_ok {dg : List Int} {M : Int} (hd : dg ≠ []) (hM : 0 < M ∧ M ≤ 20) (pl : Int) : ∃ p pl', okP p ∧ p.bs.length ≤ M ∧ G_law_problem [.h 1, .d (.int M)] (wS dg pl) = some (.ok (.d (pbD p)), wS dg pl') := by
  obtain ⟨v, v0, v1, hv⟩ := eNext (fa := aCons (eVar 0) (aCons (eC (.int 5)) aNil)) (q := fnQ 10 [.h 1, .d (.int M)] (wS dg pl)) (pl := pl) hd (show (0 : Int) < 5 by decide) (aCons_ok rfl (aCons_ok rfl rfl)) rfl
  have hf : (bnd (aCons (eOp gAdd (eC (.int 1)) (eCall 2 G_law_next (aCons (eVar 0) (aCons (eC (.int 5)) aNil)))) aNil) fun xs => lft (rng1 xs)) (fnQ 10 [.h 1, .d (.int M)] (wS dg pl)) = some (.ok (iota 0 (v.toNat + 1)), ⟨[.hnd 1, .dat (.int M), .un, .un, .un, .un, .un, .un, .un, .un], wS dg (pl + 1)⟩) :=
    rng_len (eOp_ok rfl hv (gAdd1 v0)) (by omega)
  obtain ⟨xs, q', hc, hxl, hxi, pl2, hq⟩ := lLc_rel (vs := [2]) (a := gSet 2) (gt := ret true) (fe := eOp gMinus (eCall 2 G_law_next (aCons (eVar 0) (aCons (eC (.int 21)) aNil))) (eC (.int 10))) (fun d => ∃ i, d = .int i ∧ -10 ≤ i ∧ i ≤ 10) (fun q => ∃ pl, q = ⟨[.hnd 1, .dat (.int M), .un, .un, .un, .un, .un, .un, .un, .un], wS dg pl⟩) hf (by rw [iota_len]; exact Nat.le_trans (show v.toNat + 1 ≤ 10 by omega) (by decide))
    (fun d _ q ⟨pl, e⟩ => by
      subst e
      obtain ⟨u, u0, u1, hu⟩ := eNext (fa := aCons (eVar 0) (aCons (eC (.int 21)) aNil)) (q := ⟨[.hnd 1, .dat (.int M), toSl (.d d), .un, .un, .un, .un, .un, .un, .un], wS dg pl⟩) (pl := pl) hd (show (0 : Int) < 21 by decide) (aCons_ok rfl (aCons_ok rfl rfl)) rfl
      exact ⟨_, _, _, _, rfl, rfl, eOp_ok hu rfl rfl, ⟨u - 10, rfl, by omega, by omega⟩, pl + 1, rfl⟩) ⟨pl + 1, rfl⟩
  subst hq
  obtain ⟨rows, rfl, hrow⟩ := to_ilP xs hxi
  rw [il_len, iota_len] at hxl
  obtain ⟨u, u0, u1, hu⟩ := eNext (fa := aCons (eVar 0) (aCons (eVar 1) aNil)) (q := ⟨[.hnd 1, .dat (.int M), .un, .dat (tpD rows), .ol [], .un, .un, .un, .un, .un], wS dg pl2⟩) (pl := pl2) hd (hM.1) (aCons_ok rfl (aCons_ok rfl rfl)) rfl
  obtain ⟨bs, pl3, x2, x5, x6, x7, x8, x9, hl, hbl, hbb⟩ := problem_2 (dg := dg) (rows := rows) (x3 := .un) (m := .int M) hd (by omega) (by omega) (iota 0 (u.toNat + 1)) (pl2 + 1) .un .un .un .un .un .un (by rw [iota_len]; omega)
  obtain ⟨a, a0, a1, ha⟩ := eNext (fa := aCons (eVar 0) (aCons (eC (.int 3)) aNil)) (q := ⟨[.hnd 1, .dat (.int M), x2, .dat (tpD rows), .ol (bs.map btD), x5, x6, x7, x8, x9], wS dg pl3⟩) (pl := pl3) hd (show (0 : Int) < 3 by decide) (aCons_ok rfl (aCons_ok rfl rfl)) rfl
  obtain ⟨b, b0, b1, hb⟩ := eNext (fa := aCons (eVar 0) (aCons (eC (.int 6)) aNil)) (q := ⟨[.hnd 1, .dat (.int M), x2, .dat (tpD rows), .ol (bs.map btD), x5, x6, x7, x8, x9], wS dg (pl3 + 1)⟩) (pl := pl3 + 1) hd (show (0 : Int) < 6 by decide) (aCons_ok rfl (aCons_ok rfl rfl)) rfl
  rw [iota_len] at hbl
  refine ⟨⟨rows, bs, 1 + a, 1 + b⟩, pl3 + 1 + 1, ⟨by show 0 < rows.length; omega, by show rows.length ≤ 5; omega, hrow, by show 0 < bs.length; omega, by show bs.length ≤ 20; omega, hbb, ⟨by show 1 ≤ 1 + a; omega, by show 1 + a ≤ 3; omega⟩, ⟨by show 1 ≤ 1 + b; omega, by show 1 + b ≤ 6; omega⟩⟩, by show (bs.length : Int) ≤ M; omega, ?_⟩
  exact fnG_rt (q := ⟨_, wS dg (pl3 + 1 + 1)⟩) (sSeq_to (sAsg_ok (eCB1_ok (eL_ok hc) rfl) rfl) (sSeq_to (sSetL_ok (lLst_ok rfl rfl (Nat.zero_le _)) (by exact (show 4 < 10 by decide))) (sSeq_to (sFor_ok (rng_len (eOp_ok rfl hu (gAdd1 u0)) (by omega)) hl)
    (sRet_ok (eTup_ok (aCons_ok rfl (aCons_ok (eCBV_ok rfl rfl) (aCons_ok (eOp_ok rfl ha rfl) (aCons_ok (eOp_ok rfl hb rfl) rfl)))) rfl (show 4 ≤ big by decide))))))
structure okT (s : Int × Int × Int) : Prop where
  a : 1 ≤ s.1 ∧ s.1 ≤ 4
  b : 1 ≤ s.2.1 ∧ s.2.1 ≤ 3
  c : 1 ≤ s.2.2 ∧ s.2.2 ≤ 3
def stD (s : Int × Int × Int) : D := .tup [.int s.1, .int s.2.1, .int s.2.2]
theorem setup_ok {dg : List Int} (hd : dg ≠ []) (pl : Int) : ∃ s pl', okT s ∧ G_law_setup [.h 1] (wS dg pl) = some (.ok (.d (stD s)), wS dg pl') := by
  obtain ⟨a, a0, a1, ha⟩ := eNext (fa := aCons (eVar 0) (aCons (eC (.int 4)) aNil)) (q := fnQ 1 [.h 1] (wS dg pl)) (pl := pl) hd (show (0 : Int) < 4 by decide) (aCons_ok rfl (aCons_ok rfl rfl)) rfl
  obtain ⟨b, b0, b1, hb⟩ := eNext (fa := aCons (eVar 0) (aCons (eC (.int 3)) aNil)) (q := ⟨[.hnd 1], wS dg (pl + 1)⟩) (pl := pl + 1) hd (show (0 : Int) < 3 by decide) (aCons_ok rfl (aCons_ok rfl rfl)) rfl
  obtain ⟨c, c0, c1, hc⟩ := eNext (fa := aCons (eVar 0) (aCons (eC (.int 3)) aNil)) (q := ⟨[.hnd 1], wS dg (pl + 1 + 1)⟩) (pl := pl + 1 + 1) hd (show (0 : Int) < 3 by decide) (aCons_ok rfl (aCons_ok rfl rfl)) rfl
  refine ⟨(1 + a, 1 + b, 1 + c), pl + 1 + 1 + 1, ⟨⟨by show 1 ≤ 1 + a; omega, by show 1 + a ≤ 4; omega⟩, ⟨by show 1 ≤ 1 + b; omega, by show 1 + b ≤ 3; omega⟩, ⟨by show 1 ≤ 1 + c; omega, by show 1 + c ≤ 3; omega⟩⟩, ?_⟩
  exact fnG_rt (q := ⟨_, wS dg (pl + 1 + 1 + 1)⟩) (sRet_ok (eTup_ok (aCons_ok (eOp_ok rfl ha rfl) (aCons_ok (eOp_ok rfl hb rfl) (aCons_ok (eOp_ok rfl hc rfl) rfl))) rfl (show 3 ≤ big by decide)))
end Den

namespace Den
open PySem PySem.Spec PyProof.Rows L2
open Evl (Ex)
/-! ### what the checks take -/
def okD : D → Bool
  | .non => true
  | .bl _ => true
  | .int _ => true
  | .str _ => true
  | .tup _ => true
  | .lst _ => true
  | _ => false
def isT (v : D) (a b : Int) : Bool := match v with
  | .tup ds => decide (a ≤ (ds.length : Int)) && decide ((ds.length : Int) ≤ b)
  | _ => false
def isI (v : D) (a b : Int) : Bool := match v with
  | .int i => decide (a ≤ i) && decide (i ≤ b)
  | _ => false
theorem isT_ok {v : D} {a b : Int} {w : List WO} (h : okD v = true) : G_is_tuple [.d v, .d (.int a), .d (.int b)] w = some (.ok (.d (.bl (isT v a b))), w) := by
  cases v with
  | tup ds =>
    refine fnG_rt (q := fnQ 3 [.d (.tup ds), .d (.int a), .d (.int b)] w) (sRet_ok (ifb_t (tOf_ok (eOp_ok (eCB1_ok rfl rfl) rfl rfl)) ?_))
    by_cases h1 : a ≤ (ds.length : Int)
    · have e : isT (.tup ds) a b = decide ((ds.length : Int) ≤ b) := by simp [isT, h1]
      rw [e]
      exact eChain_t rfl (eCB1_ok rfl rfl) (by rw [gC, decide_eq_true h1]) rfl rfl
    · have e : isT (.tup ds) a b = false := by simp [isT, h1]
      rw [e]
      exact eChain_f rfl (eCB1_ok rfl rfl) (by rw [gC, decide_eq_false h1])
  | non => rfl
  | bl b => rfl
  | int i => rfl
  | str s => rfl
  | lst ds => rfl
  | _ => cases h
theorem isI_ok {v : D} {a b : Int} {w : List WO} (h : okD v = true) : G_is_integer [.d v, .d (.int a), .d (.int b)] w = some (.ok (.d (.bl (isI v a b))), w) := by
  cases v with
  | int i =>
    refine fnG_rt (q := fnQ 3 [.d (.int i), .d (.int a), .d (.int b)] w) (sRet_ok (ifb_t (tOf_ok (eOp_ok (eCB1_ok rfl rfl) rfl rfl)) ?_))
    by_cases h1 : a ≤ i
    · have e : isI (.int i) a b = decide (i ≤ b) := by simp [isI, h1]
      rw [e]
      exact eChain_t rfl rfl (by rw [gC, decide_eq_true h1]) rfl rfl
    · have e : isI (.int i) a b = false := by simp [isI, h1]
      rw [e]
      exact eChain_f rfl rfl (by rw [gC, decide_eq_false h1])
  | non => rfl
  | bl b => rfl
  | tup i => rfl
  | str s => rfl
  | lst ds => rfl
  | _ => cases h
/-- `if not is_..(..): raise` -/
theorem chk_ok {f : ME XV} {c : Value} {q : Stt} {b : Bool} (h : f q = some (.ok (.d (.bl b)), q)) : sIf (tNotB (tOf f)) (sRaise c) sNext q = some (if b then .nx q else .ex c q) := by
  cases b with
  | true => exact sIf_f (tNot_ok (tOf_ok h)) rfl
  | false => exact sIf_t (tNot_ok (tOf_ok h)) rfl
variable {C : Cl} {w : List WO}
abbrev bP (C : Cl) : Value := .ref C.BadProblem_
abbrev res (b : Bool) (c : Value) (w : List WO) : Option (Except Value XV × List WO) := some (if b then (Except.ok (XV.d .non)) else Except.error c, w)
def okRows (v : D) : Bool := isT v 1 20 && (match v with | .tup ds => ds.all fun d => isI d (-1000000) 1000000 | _ => false)
theorem chk_rows {v : D} (h : okD v = true) (hd : ∀ ds, v = .tup ds → ∀ d ∈ ds, okD d = true) : G_check_rows C [.d v] w = res (okRows v) (bP C) w := by
  have h1 : (sIf (tNotB (tOf (eCall 3 G_is_tuple (aCons (eVar 0) (aCons (eC (.int 1)) (aCons (eC (.int (20))) aNil)))))) (sRaise (.ref C.BadProblem_)) sNext) (fnQ 2 [.d v] w) = some (if isT v 1 20 then .nx (fnQ 2 [.d v] w) else .ex (bP C) (fnQ 2 [.d v] w)) :=
    chk_ok (eCall_w (aCons_ok rfl (aCons_ok rfl (aCons_ok rfl rfl))) rfl (isT_ok h))
  cases e : isT v 1 20 with
  | false =>
    rw [e] at h1
    have e2 : okRows v = false := by simp [okRows, e]
    rw [e2]
    exact fnX_ex (q := fnQ 2 [.d v] w) (sSeq_ex h1)
  | true =>
    rw [e] at h1
    cases v with
    | tup ds =>
      obtain ⟨q', h2, h3⟩ := loopD_all (a := gSet 1) (g := lb_check_rows_0 C) (c := bP C) (fun d => isI d (-1000000) 1000000) (fun q => ∃ x, q = ⟨[.dat (.tup ds), x], w⟩) ds ⟨[.dat (.tup ds), .un], w⟩ (fun d hm q ⟨x, e⟩ => by
        subst e
        exact ⟨_, _, rfl, chk_ok (by exact eCall_w (aCons_ok rfl (aCons_ok rfl (aCons_ok rfl rfl))) rfl (isI_ok (hd ds rfl d hm))), _, rfl⟩) ⟨_, rfl⟩
      obtain ⟨x, rfl⟩ := h3
      have e2 : okRows (.tup ds) = ds.all fun d => isI d (-1000000) 1000000 := by simp [okRows, e]
      rw [e2]
      have h4 : sFor (iOf (eVar 0)) (gSet 1) (lb_check_rows_0 C) (fnQ 2 [.d (.tup ds)] w) = _ := (sOf_ok (iOf_ok rfl rfl)).trans h2
      cases e3 : ds.all fun d => isI d (-1000000) 1000000 with
      | true =>
        rw [e3] at h4
        exact fnX_nx (q := ⟨[.dat (.tup ds), x], w⟩) (sSeq_to h1 h4)
      | false =>
        rw [e3] at h4
        exact fnX_ex (q := ⟨[.dat (.tup ds), x], w⟩) (sSeq_to h1 h4)
    | _ => cases e
theorem isT_tup {ds : List D} {a b : Int} : isT (.tup ds) a b = (decide (a ≤ (ds.length : Int)) && decide ((ds.length : Int) ≤ b)) := rfl
theorem ints_of {a b : Int} : ∀ {ds : List D}, (ds.all fun d => isI d a b) = true → ∃ ns, ds = il ns ∧ ∀ i ∈ ns, a ≤ i ∧ i ≤ b
  | [], _ => ⟨[], rfl, by simp⟩
  | d :: ds, h => by
    simp only [List.all_cons, Bool.and_eq_true] at h
    obtain ⟨ns, rfl, hn⟩ := ints_of h.2
    cases d with
    | int i =>
      have h1 : (decide (a ≤ i) && decide (i ≤ b)) = true := h.1
      simp only [Bool.and_eq_true, decide_eq_true_eq] at h1
      exact ⟨i :: ns, rfl, by simpa using ⟨h1, hn⟩⟩
    | _ => cases h.1
def okN : Nat → D → Bool
  | 0, v => okD v
  | k + 1, v => okD v && (match v with | .tup ds => ds.all (okN k) | _ => true)
theorem okN_D : ∀ {k : Nat} {v : D}, okN k v = true → okD v = true
  | 0, v, h => h
  | k + 1, v, h => by
    unfold okN at h
    rw [Bool.and_eq_true] at h
    exact h.1
theorem okN_T {k : Nat} {ds : List D} (h : okN (k + 1) (.tup ds) = true) : ∀ d ∈ ds, okN k d = true := by
  have h' : (okD (.tup ds) && ds.all (okN k)) = true := h
  rw [Bool.and_eq_true] at h'
  exact List.all_eq_true.mp h'.2
def distinct (ds : List D) : Bool := match intsD ds with
  | some ns => decide (ns.length ≤ (uniq ns).length)
  | none => false
def okLook (v : D) (n : Int) : Bool := match v with
  | .tup ds => (ds.all fun d => isI d 0 (n - 1)) && distinct ds
  | _ => false
def okSample (v : D) (n : Int) : Bool := match v with
  | .tup [l, t] => isT l 1 4 && (okLook l n && isI t (-1000000) 1000000)
  | _ => false
theorem lenSet_ok {ns : List Int} {q : Stt} (h : eVar 2 q = some (.ok (.d (.tup (il ns))), q)) (hl : ns.length ≤ 1000) : eLenSet (eVar 2) q = some (.ok (.d (.int ((uniq ns).length : Nat))), q) := by
  simp only [eLenSet, bnd, h, gLenSet, intsD_il, Option.bind, if_pos hl, Option.map, lft]
theorem chk_sample {v : D} {n : Int} (h : okN 2 v = true) : G_check_sample C [.d v, .d (.int n)] w = res (okSample v n) (bP C) w := by
  have h1 : (sIf (tNotB (tOf (eCall 3 G_is_tuple (aCons (eVar 0) (aCons (eC (.int 2)) (aCons (eC (.int 2)) aNil)))))) (sRaise (.ref C.BadProblem_)) sNext) (fnQ 5 [.d v, .d (.int n)] w) = some (if isT v 2 2 then .nx (fnQ 5 [.d v, .d (.int n)] w) else .ex (bP C) (fnQ 5 [.d v, .d (.int n)] w)) :=
    chk_ok (eCall_w (aCons_ok rfl (aCons_ok rfl (aCons_ok rfl rfl))) rfl (isT_ok (okN_D h)))
  have bad : isT v 2 2 = false → okSample v n = false → G_check_sample C [.d v, .d (.int n)] w = res (okSample v n) (bP C) w := by
    intro e e2
    rw [e] at h1
    rw [e2]
    exact fnX_ex (q := fnQ 5 [.d v, .d (.int n)] w) (sSeq_ex h1)
  cases v with
  | tup xs =>
    match xs, h, h1, bad with
    | [], _, _, bad => exact bad rfl rfl
    | [_], _, _, bad => exact bad rfl rfl
    | _ :: _ :: _ :: r, _, _, bad => exact bad (by simp [isT_tup]; omega) rfl
    | [l, t], h, h1, _ =>
      have h1' : (sIf (tNotB (tOf (eCall 3 G_is_tuple (aCons (eVar 0) (aCons (eC (.int 2)) (aCons (eC (.int 2)) aNil)))))) (sRaise (.ref C.BadProblem_)) sNext) (fnQ 5 [.d (.tup [l, t]), .d (.int n)] w) = some (.nx (fnQ 5 [.d (.tup [l, t]), .d (.int n)] w)) := h1
      have hl := okN_T h l (by simp)
      have ht := okN_D (okN_T h t (by simp))
      have hA : (sIf (tNotB (tOf (eCall 3 G_is_tuple (aCons (eVar 2) (aCons (eC (.int 1)) (aCons (eC (.int (4))) aNil)))))) (sRaise (.ref C.BadProblem_)) sNext) ⟨[.dat (.tup [l, t]), .dat (.int n), .dat l, .dat t, .un], w⟩ = some (if isT l 1 4 then .nx ⟨[.dat (.tup [l, t]), .dat (.int n), .dat l, .dat t, .un], w⟩ else .ex (bP C) ⟨[.dat (.tup [l, t]), .dat (.int n), .dat l, .dat t, .un], w⟩) :=
        chk_ok (by exact eCall_w (aCons_ok rfl (aCons_ok rfl (aCons_ok rfl rfl))) rfl (isT_ok (okN_D hl)))
      cases eA : isT l 1 4 with
      | false =>
        rw [eA] at hA
        have e2 : okSample (.tup [l, t]) n = false := by simp [okSample, eA]
        rw [e2]
        exact fnX_ex (q := ⟨[.dat (.tup [l, t]), .dat (.int n), .dat l, .dat t, .un], w⟩) (sSeq_to h1' (sSeq_to (sAsg_ok rfl rfl) (sSeq_ex hA)))
      | true =>
        rw [eA] at hA
        cases l with
        | tup ds =>
          have hlen : 1 ≤ ds.length ∧ ds.length ≤ 4 := by
            rw [isT_tup, Bool.and_eq_true, decide_eq_true_eq, decide_eq_true_eq] at eA
            omega
          obtain ⟨q', h2, h3⟩ := loopD_all (a := gSet 4) (g := lb_check_sample_0 C) (c := bP C) (fun d => isI d 0 (n - 1)) (fun q => ∃ x, q = ⟨[.dat (.tup [.tup ds, t]), .dat (.int n), .dat (.tup ds), .dat t, x], w⟩) ds ⟨[.dat (.tup [.tup ds, t]), .dat (.int n), .dat (.tup ds), .dat t, .un], w⟩ (fun d hm q ⟨x, e⟩ => by
            subst e
            exact ⟨_, _, rfl, chk_ok (by exact eCall_w (aCons_ok rfl (aCons_ok rfl (aCons_ok (eOp_ok rfl rfl rfl) rfl))) rfl (isI_ok (okN_D (okN_T hl d hm)))), _, rfl⟩) ⟨_, rfl⟩
          obtain ⟨x, rfl⟩ := h3
          have h4 : sFor (iOf (eVar 2)) (gSet 4) (lb_check_sample_0 C) ⟨[.dat (.tup [.tup ds, t]), .dat (.int n), .dat (.tup ds), .dat t, .un], w⟩ = _ := (sOf_ok (iOf_ok rfl rfl)).trans h2
          cases e3 : ds.all fun d => isI d 0 (n - 1) with
          | false =>
            rw [e3] at h4
            have e2 : okSample (.tup [.tup ds, t]) n = false := by simp only [okSample, okLook, e3, Bool.false_and, Bool.and_false]
            rw [e2]
            exact fnX_ex (q := ⟨[.dat (.tup [.tup ds, t]), .dat (.int n), .dat (.tup ds), .dat t, x], w⟩) (sSeq_to h1' (sSeq_to (sAsg_ok rfl rfl) (sSeq_to hA (sSeq_ex h4))))
          | true =>
            rw [e3] at h4
            obtain ⟨ns, rfl, hns⟩ := ints_of e3
            have hnl : ns.length ≤ 4 := by
              have := hlen.2
              rw [il_len] at this
              exact this
            have hC : (eOp (gC fun i j => decide (i < j)) (eLenSet (eVar 2)) (eCB gLen (aCons (eVar 2) aNil))) ⟨[.dat (.tup [.tup (il ns), t]), .dat (.int n), .dat (.tup (il ns)), .dat t, x], w⟩ = some (.ok (.d (.bl (decide (((uniq ns).length : Int) < ((il ns).length : Int))))), ⟨[.dat (.tup [.tup (il ns), t]), .dat (.int n), .dat (.tup (il ns)), .dat t, x], w⟩) :=
              eOp_ok (lenSet_ok rfl (by omega)) (eCB1_ok rfl rfl) rfl
            have hdis : distinct (il ns) = decide (ns.length ≤ (uniq ns).length) := by simp only [distinct, intsD_il]
            by_cases hu : ns.length ≤ (uniq ns).length
            · have hC' := hC
              rw [decide_eq_false (by rw [il_len]; omega)] at hC'
              have hD : (sIf (tNotB (tOf (eCall 3 G_is_integer (aCons (eVar 3) (aCons (eUn gNeg (eC (.int (1000000)))) (aCons (eC (.int (1000000))) aNil)))))) (sRaise (.ref C.BadProblem_)) sNext) ⟨[.dat (.tup [.tup (il ns), t]), .dat (.int n), .dat (.tup (il ns)), .dat t, x], w⟩ = some (if isI t (-1000000) 1000000 then .nx ⟨[.dat (.tup [.tup (il ns), t]), .dat (.int n), .dat (.tup (il ns)), .dat t, x], w⟩ else .ex (bP C) ⟨[.dat (.tup [.tup (il ns), t]), .dat (.int n), .dat (.tup (il ns)), .dat t, x], w⟩) :=
                chk_ok (by exact eCall_w (aCons_ok rfl (aCons_ok rfl (aCons_ok rfl rfl))) rfl (isI_ok ht))
              have e2 : okSample (.tup [.tup (il ns), t]) n = isI t (-1000000) 1000000 := by simp only [okSample, okLook, e3, eA, hdis, decide_eq_true hu, Bool.true_and]
              rw [e2]
              have hrun : g_check_sample C (fnQ 5 [.d (.tup [.tup (il ns), t]), .d (.int n)] w) = _ := (sSeq_to h1' (sSeq_to (sAsg_ok rfl rfl) (sSeq_to hA (sSeq_to h4 (sSeq_to (sIf_f (tOf_ok hC') rfl) hD)))))
              cases e5 : isI t (-1000000) 1000000 with
              | true =>
                rw [e5] at hrun
                exact fnX_nx hrun
              | false =>
                rw [e5] at hrun
                exact fnX_ex hrun
            · have hC' := hC
              rw [decide_eq_true (by rw [il_len]; omega)] at hC'
              have e2 : okSample (.tup [.tup (il ns), t]) n = false := by simp only [okSample, okLook, e3, eA, hdis, decide_eq_false hu, Bool.false_and, Bool.and_false]
              rw [e2]
              have hrun : g_check_sample C (fnQ 5 [.d (.tup [.tup (il ns), t]), .d (.int n)] w) = _ := (sSeq_to h1' (sSeq_to (sAsg_ok rfl rfl) (sSeq_to hA (sSeq_to h4 (sSeq_ex (sIf_t (tOf_ok hC') rfl))))))
              exact fnX_ex hrun
        | _ => cases eA
  | non => exact bad rfl rfl
  | bl b => exact bad rfl rfl
  | int i => exact bad rfl rfl
  | str s => exact bad rfl rfl
  | lst ds => exact bad rfl rfl
  | _ => cases h
def okBatch (n : Int) (v : D) : Bool := isT v 0 6 && (match v with | .tup ss => ss.all fun s => okSample s n | _ => false)
def okBatches (v : D) (n : Int) : Bool := isT v 1 20 && (match v with | .tup bs => bs.all (okBatch n) | _ => false)
theorem res_call {n : Nat} {G : Fn} {fa : ME (List XV)} {q : Stt} {xs : List XV} {b : Bool} {c : Value} (h : fa q = some (.ok xs, q)) (hn : xs.length = n) (h2 : G xs q.w = res b c q.w) : sDrop (eCall n G fa) q = some (if b then .nx q else .ex c q) := by
  cases b with
  | true => exact sDrop_ok (eCall_any h hn h2)
  | false => exact sDrop_err (eCall_any h hn h2)
theorem chk_batches {v : D} {n : Int} (h : okN 4 v = true) : G_check_batches C [.d v, .d (.int n)] w = res (okBatches v n) (bP C) w := by
  have h1 : (sIf (tNotB (tOf (eCall 3 G_is_tuple (aCons (eVar 0) (aCons (eC (.int 1)) (aCons (eC (.int (20))) aNil)))))) (sRaise (.ref C.BadProblem_)) sNext) (fnQ 4 [.d v, .d (.int n)] w) = some (if isT v 1 20 then .nx (fnQ 4 [.d v, .d (.int n)] w) else .ex (bP C) (fnQ 4 [.d v, .d (.int n)] w)) :=
    chk_ok (eCall_w (aCons_ok rfl (aCons_ok rfl (aCons_ok rfl rfl))) rfl (isT_ok (okN_D h)))
  cases e : isT v 1 20 with
  | false =>
    rw [e] at h1
    have e2 : okBatches v n = false := by simp [okBatches, e]
    rw [e2]
    exact fnX_ex (q := fnQ 4 [.d v, .d (.int n)] w) (sSeq_ex h1)
  | true =>
    rw [e] at h1
    cases v with
    | tup bs =>
      obtain ⟨q', h2, h3⟩ := loopD_all (a := gSet 2) (g := lb_check_batches_1 C) (c := bP C) (okBatch n) (fun q => ∃ x y, q = ⟨[.dat (.tup bs), .dat (.int n), x, y], w⟩) bs ⟨[.dat (.tup bs), .dat (.int n), .un, .un], w⟩ (fun d hm q ⟨x, y, e⟩ => by
        subst e
        have hd := okN_T h d hm
        have h5 : (sIf (tNotB (tOf (eCall 3 G_is_tuple (aCons (eVar 2) (aCons (eC (.int 0)) (aCons (eC (.int (6))) aNil)))))) (sRaise (.ref C.BadProblem_)) sNext) ⟨[.dat (.tup bs), .dat (.int n), .dat d, y], w⟩ = some (if isT d 0 6 then .nx ⟨[.dat (.tup bs), .dat (.int n), .dat d, y], w⟩ else .ex (bP C) ⟨[.dat (.tup bs), .dat (.int n), .dat d, y], w⟩) :=
          chk_ok (by exact eCall_w (aCons_ok rfl (aCons_ok rfl (aCons_ok rfl rfl))) rfl (isT_ok (okN_D hd)))
        cases e5 : isT d 0 6 with
        | false =>
          rw [e5] at h5
          have e2 : okBatch n d = false := by simp only [okBatch, e5, Bool.false_and]
          rw [e2]
          exact ⟨_, _, rfl, sSeq_ex h5, _, _, rfl⟩
        | true =>
          rw [e5] at h5
          cases d with
          | tup ss =>
            have e2 : okBatch n (.tup ss) = ss.all fun s => okSample s n := by simp only [okBatch, e5, Bool.true_and]
            rw [e2]
            obtain ⟨q', h6, y', h7⟩ := loopD_all (a := gSet 3) (g := lb_check_batches_0 C) (c := bP C) (fun s => okSample s n) (fun q => ∃ y, q = ⟨[.dat (.tup bs), .dat (.int n), .dat (.tup ss), y], w⟩) ss ⟨[.dat (.tup bs), .dat (.int n), .dat (.tup ss), y], w⟩ (fun s hs q ⟨y, e⟩ => by
              subst e
              exact ⟨_, _, rfl, res_call (by exact aCons_ok rfl (aCons_ok rfl rfl)) rfl (chk_sample (okN_T hd s hs)), _, rfl⟩) ⟨_, rfl⟩
            subst h7
            have h8 : sFor (iOf (eVar 2)) (gSet 3) (lb_check_batches_0 C) ⟨[.dat (.tup bs), .dat (.int n), .dat (.tup ss), y], w⟩ = _ := (sOf_ok (iOf_ok rfl rfl)).trans h6
            exact ⟨_, _, rfl, sSeq_to h5 h8, _, _, rfl⟩
          | _ => cases e5) ⟨_, _, rfl⟩
      obtain ⟨x, y, rfl⟩ := h3
      have e2 : okBatches (.tup bs) n = bs.all (okBatch n) := by simp only [okBatches, e, Bool.true_and]
      rw [e2]
      have h4 : sFor (iOf (eVar 0)) (gSet 2) (lb_check_batches_1 C) (fnQ 4 [.d (.tup bs), .d (.int n)] w) = _ := (sOf_ok (iOf_ok rfl rfl)).trans h2
      cases e3 : bs.all (okBatch n) with
      | true =>
        rw [e3] at h4
        exact fnX_nx (q := ⟨[.dat (.tup bs), .dat (.int n), x, y], w⟩) (sSeq_to h1 h4)
      | false =>
        rw [e3] at h4
        exact fnX_ex (q := ⟨[.dat (.tup bs), .dat (.int n), x, y], w⟩) (sSeq_to h1 h4)
    | _ => cases e
def lenD : D → Int
  | .tup ds => ds.length
  | _ => 0
def isProb (v : D) : Bool := match v with
  | .tup [a, b, c, d] => okRows a && (okBatches b (lenD a) && (isI c 1 1000 && isI d 1 1000))
  | _ => false
theorem res_seq {g1 g2 : MS} {q : Stt} {b : Bool} {c : Value} {z : Option Fl} (h : g1 q = some (if b then .nx q else .ex c q)) (k : b = true → g2 q = z) (k2 : b = false → z = some (.ex c q)) : sSeq g1 g2 q = z := by
  cases b with
  | true => exact sSeq_to h (k rfl)
  | false => exact (sSeq_ex h).trans (k2 rfl).symm
theorem if_and {b d : Bool} {x y : Fl} : (if (b && d) then x else y) = (if b then (if d then x else y) else y) := by cases b <;> rfl
theorem fnX_res {n : Nat} {g : MS} {xs : List XV} {w : List WO} {q : Stt} {b : Bool} {c : Value} (h : g (fnQ n xs w) = some (if b then .nx q else .ex c q)) : fnX n g xs w = res b c q.w := by
  cases b with
  | true => exact fnX_nx h
  | false => exact fnX_ex h
theorem chk_problem {v : D} (h : okN 5 v = true) : G_check_problem C [.d v] w = res (isProb v) (bP C) w := by
  have h1 : (sIf (tNotB (tOf (eCall 3 G_is_tuple (aCons (eVar 0) (aCons (eC (.int 4)) (aCons (eC (.int 4)) aNil)))))) (sRaise (.ref C.BadProblem_)) sNext) (fnQ 5 [.d v] w) = some (if isT v 4 4 then .nx (fnQ 5 [.d v] w) else .ex (bP C) (fnQ 5 [.d v] w)) :=
    chk_ok (eCall_w (aCons_ok rfl (aCons_ok rfl (aCons_ok rfl rfl))) rfl (isT_ok (okN_D h)))
  have bad : isT v 4 4 = false → isProb v = false → G_check_problem C [.d v] w = res (isProb v) (bP C) w := by
    intro e e2
    rw [e] at h1
    rw [e2]
    exact fnX_ex (q := fnQ 5 [.d v] w) (sSeq_ex h1)
  cases v with
  | tup xs =>
    match xs, h, h1, bad with
    | [], _, _, bad => exact bad rfl rfl
    | [_], _, _, bad => exact bad rfl rfl
    | [_, _], _, _, bad => exact bad rfl rfl
    | [_, _, _], _, _, bad => exact bad rfl rfl
    | _ :: _ :: _ :: _ :: _ :: r, _, _, bad => exact bad (by simp [isT_tup]; omega) rfl
    | [a, b, c, d], h, h1, _ =>
      have ha := okN_T h a (by simp)
      have hb := okN_T h b (by simp)
      have hc := okN_D (okN_T h c (by simp))
      have hd := okN_D (okN_T h d (by simp))
      have run : g_check_problem C (fnQ 5 [.d (.tup [a, b, c, d])] w) = some (if isProb (.tup [a, b, c, d]) then .nx ⟨[.dat (.tup [a, b, c, d]), .dat a, .dat b, .dat c, .dat d], w⟩ else .ex (bP C) ⟨[.dat (.tup [a, b, c, d]), .dat a, .dat b, .dat c, .dat d], w⟩) := by
        show _ = some (if (okRows a && (okBatches b (lenD a) && (isI c 1 1000 && isI d 1 1000))) then _ else _)
        rw [if_and, if_and, if_and]
        refine sSeq_to h1 (sSeq_to (sAsg_ok rfl rfl) ?_)
        refine res_seq (b := okRows a) (c := bP C) (res_call (by exact aCons_ok rfl rfl) rfl (chk_rows (okN_D ha) fun ds e d hd => okN_D (okN_T (e ▸ ha) d hd))) (fun e1 => ?_) (fun e1 => by rw [e1]; rfl)
        have hla : gLen [a] = some (.int (lenD a)) := by
          cases a with
          | tup ds => rfl
          | _ => cases e1
        rw [e1]
        refine res_seq (b := okBatches b (lenD a)) (c := bP C) (res_call (by exact aCons_ok rfl (aCons_ok (eCB1_ok rfl hla) rfl)) rfl (chk_batches hb)) (fun e2 => ?_) (fun e2 => by rw [e2]; rfl)
        rw [e2]
        refine res_seq (b := isI c 1 1000) (c := bP C) (chk_ok (by exact eCall_w (aCons_ok rfl (aCons_ok rfl (aCons_ok rfl rfl))) rfl (isI_ok hc))) (fun e3 => ?_) (fun e3 => by rw [e3]; rfl)
        rw [e3]
        exact chk_ok (by exact eCall_w (aCons_ok rfl (aCons_ok rfl (aCons_ok rfl rfl))) rfl (isI_ok hd))
      exact fnX_res run
  | non => exact bad rfl rfl
  | bl b => exact bad rfl rfl
  | int i => exact bad rfl rfl
  | str s => exact bad rfl rfl
  | lst ds => exact bad rfl rfl
  | _ => cases h
def isSet (v : D) : Bool := match v with
  | .tup [a, b, c] => isI a 1 4 && (isI b 1 20 && isI c 1 20)
  | _ => false
abbrev bS (C : Cl) : Value := .ref C.BadSetup_
theorem chkS_ok {f : ME XV} {c : Value} {q : Stt} {b : Bool} (h : f q = some (.ok (.d (.bl b)), q)) : sIf (tNotB (tOf f)) (sRaise c) sNext q = some (if b then .nx q else .ex c q) := chk_ok h
theorem chk_setup {v : D} (h : okN 1 v = true) : G_check_setup C [.d v] w = res (isSet v) (bS C) w := by
  have h1 : (sIf (tNotB (tOf (eCall 3 G_is_tuple (aCons (eVar 0) (aCons (eC (.int 3)) (aCons (eC (.int 3)) aNil)))))) (sRaise (.ref C.BadSetup_)) sNext) (fnQ 4 [.d v] w) = some (if isT v 3 3 then .nx (fnQ 4 [.d v] w) else .ex (bS C) (fnQ 4 [.d v] w)) :=
    chk_ok (eCall_w (aCons_ok rfl (aCons_ok rfl (aCons_ok rfl rfl))) rfl (isT_ok (okN_D h)))
  have bad : isT v 3 3 = false → isSet v = false → G_check_setup C [.d v] w = res (isSet v) (bS C) w := by
    intro e e2
    rw [e] at h1
    rw [e2]
    exact fnX_ex (q := fnQ 4 [.d v] w) (sSeq_ex h1)
  cases v with
  | tup xs =>
    match xs, h, h1, bad with
    | [], _, _, bad => exact bad rfl rfl
    | [_], _, _, bad => exact bad rfl rfl
    | [_, _], _, _, bad => exact bad rfl rfl
    | _ :: _ :: _ :: _ :: r, _, _, bad => exact bad (by simp [isT_tup]; omega) rfl
    | [a, b, c], h, h1, _ =>
      have ha := okN_D (okN_T h a (by simp))
      have hb := okN_D (okN_T h b (by simp))
      have hc := okN_D (okN_T h c (by simp))
      have run : g_check_setup C (fnQ 4 [.d (.tup [a, b, c])] w) = some (if isSet (.tup [a, b, c]) then .nx ⟨[.dat (.tup [a, b, c]), .dat a, .dat b, .dat c], w⟩ else .ex (bS C) ⟨[.dat (.tup [a, b, c]), .dat a, .dat b, .dat c], w⟩) := by
        show _ = some (if (isI a 1 4 && (isI b 1 20 && isI c 1 20)) then _ else _)
        rw [if_and, if_and]
        refine sSeq_to h1 (sSeq_to (sAsg_ok rfl rfl) ?_)
        refine res_seq (b := isI a 1 4) (c := bS C) (chk_ok (by exact eCall_w (aCons_ok rfl (aCons_ok rfl (aCons_ok rfl rfl))) rfl (isI_ok ha))) (fun e3 => ?_) (fun e3 => by rw [e3]; rfl)
        rw [e3]
        refine res_seq (b := isI b 1 20) (c := bS C) (chk_ok (by exact eCall_w (aCons_ok rfl (aCons_ok rfl (aCons_ok rfl rfl))) rfl (isI_ok hb))) (fun e3 => ?_) (fun e3 => by rw [e3]; rfl)
        rw [e3]
        exact chk_ok (by exact eCall_w (aCons_ok rfl (aCons_ok rfl (aCons_ok rfl rfl))) rfl (isI_ok hc))
      exact fnX_res run
  | non => exact bad rfl rfl
  | bl b => exact bad rfl rfl
  | int i => exact bad rfl rfl
  | str s => exact bad rfl rfl
  | lst ds => exact bad rfl rfl
  | _ => cases h
end Den

namespace Den
open PySem PySem.Spec PyProof.Rows L2
open Evl (Ex)
variable {C : Cl} {w : List WO}
/-! ### which error it is -/
theorem sTry_ex {g : MS} {hs : List DH} {q q1 : Stt} {c : Value} {z : Option Fl} (h : g q = some (.ex c q1)) (k : hdl c q1 hs = z) : sTry g hs q = z := by
  simp only [sTry, h, k]
theorem sTry_nx {g : MS} {hs : List DH} {q q1 : Stt} (h : g q = some (.nx q1)) : sTry g hs q = some (.nx q1) := by
  simp only [sTry, h]
theorem kind_p {v : D} (h : okN 5 v = true) (hp : isProb v = false) : G_law_kind C [.d (.tup [v]), .d .non] w = some (.ok (.d (.str "problem")), w) := by
  have h1 : sDrop (eCall 1 (G_check_problem C) (aCons (eIx (eVar 0) (eC (.int 0))) aNil)) (fnQ 3 [.d (.tup [v]), .d .non] w) = some (if isProb v then .nx (fnQ 3 [.d (.tup [v]), .d .non] w) else .ex (bP C) (fnQ 3 [.d (.tup [v]), .d .non] w)) :=
    res_call (aCons_ok (eIx_d rfl rfl rfl) rfl) rfl (chk_problem h)
  rw [hp] at h1
  refine fnG_rt (q := ⟨[.dat (.tup [v]), .dat .non, .un], w⟩) (sSeq_rt (sTry_ex (q1 := fnQ 3 [.d (.tup [v]), .d .non] w) (c := bP C) (sSeq_ex (sIf_t (tOf_ok rfl) h1)) ?_))
  simp only [hdl]
  have e : m_BadProblem C (bP C) = some true := if_pos rfl
  rw [e]
  rfl
theorem cls_ne {K : PySem.W.Frag} {mg : Str → Option Value} (CO : ClOk K mg C) : bS C ≠ bP C := by
  intro e
  have h1 := CO.exm_BadSetup_BadProblem
  have h2 := CO.exm_BadProblem_BadProblem
  have e' : (Value.ref C.BadSetup_) = .ref C.BadProblem_ := e
  rw [e', h2] at h1
  cases h1
theorem kind_s {v : D} {K : PySem.W.Frag} {mg : Str → Option Value} (CO : ClOk K mg C) (h : okN 1 v = true) (hp : isSet v = false) : G_law_kind C [.d .non, .d (.tup [v])] w = some (.ok (.d (.str "setup")), w) := by
  have h1 : sDrop (eCall 1 (G_check_setup C) (aCons (eIx (eVar 1) (eC (.int 0))) aNil)) (fnQ 3 [.d .non, .d (.tup [v])] w) = some (if isSet v then .nx (fnQ 3 [.d .non, .d (.tup [v])] w) else .ex (bS C) (fnQ 3 [.d .non, .d (.tup [v])] w)) :=
    res_call (aCons_ok (eIx_d rfl rfl rfl) rfl) rfl (chk_setup h)
  rw [hp] at h1
  refine fnG_rt (q := ⟨[.dat .non, .dat (.tup [v]), .un], w⟩) (sSeq_rt (sTry_ex (q1 := fnQ 3 [.d .non, .d (.tup [v])] w) (c := bS C) (sSeq_to (sIf_f (tOf_ok rfl) rfl) (sIf_t (tOf_ok rfl) h1)) ?_))
  simp only [hdl]
  have e : m_BadProblem C (bS C) = some false := (if_neg (cls_ne CO)).trans (if_pos rfl)
  have e2 : m_BadSetup C (bS C) = some true := if_pos rfl
  rw [e, e2]
  rfl
theorem kind_d {v u : D} (h : okN 5 v = true) (hp : isProb v = true) (h2 : okN 1 u = true) (hp2 : isSet u = true) : G_law_kind C [.d (.tup [v]), .d (.tup [u])] w = some (.ok (.d (.str "done")), w) := by
  have h1 : sDrop (eCall 1 (G_check_problem C) (aCons (eIx (eVar 0) (eC (.int 0))) aNil)) (fnQ 3 [.d (.tup [v]), .d (.tup [u])] w) = some (if isProb v then .nx (fnQ 3 [.d (.tup [v]), .d (.tup [u])] w) else .ex (bP C) (fnQ 3 [.d (.tup [v]), .d (.tup [u])] w)) :=
    res_call (aCons_ok (eIx_d rfl rfl rfl) rfl) rfl (chk_problem h)
  rw [hp] at h1
  have h3 : sDrop (eCall 1 (G_check_setup C) (aCons (eIx (eVar 1) (eC (.int 0))) aNil)) (fnQ 3 [.d (.tup [v]), .d (.tup [u])] w) = some (if isSet u then .nx (fnQ 3 [.d (.tup [v]), .d (.tup [u])] w) else .ex (bS C) (fnQ 3 [.d (.tup [v]), .d (.tup [u])] w)) :=
    res_call (aCons_ok (eIx_d rfl rfl rfl) rfl) rfl (chk_setup h2)
  rw [hp2] at h3
  exact fnG_rt (q := fnQ 3 [.d (.tup [v]), .d (.tup [u])] w) (sSeq_to (sTry_nx (sSeq_to (sIf_t (tOf_ok rfl) h1) (sIf_t (tOf_ok rfl) h3))) (sRet_ok rfl))
/-! ### the drawn ones are right -/
theorem okN_int {k : Nat} {i : Int} : okN k (.int i) = true := by cases k <;> rfl
theorem okN_tup {k : Nat} {ds : List D} (h : ∀ d ∈ ds, okN k d = true) : okN (k + 1) (.tup ds) = true := by
  unfold okN
  rw [Bool.and_eq_true]
  exact ⟨rfl, List.all_eq_true.mpr h⟩
theorem okN_il {k : Nat} {l : List Int} : okN (k + 1) (.tup (il l)) = true := okN_tup fun d hd => by
  obtain ⟨i, _, rfl⟩ := List.mem_map.mp hd
  exact okN_int
theorem okN_two {k : Nat} {a b : D} (ha : okN k a = true) (hb : okN k b = true) : okN (k + 1) (.tup [a, b]) = true := okN_tup fun d hd => by
  simp only [List.mem_cons, List.not_mem_nil, or_false] at hd
  rcases hd with rfl | rfl <;> assumption
theorem okN_four {k : Nat} {a b c d : D} (ha : okN k a = true) (hb : okN k b = true) (hc : okN k c = true) (hd : okN k d = true) : okN (k + 1) (.tup [a, b, c, d]) = true := okN_tup fun e he => by
  simp only [List.mem_cons, List.not_mem_nil, or_false] at he
  rcases he with rfl | rfl | rfl | rfl <;> assumption
abbrev Rw (p : Pb) : D := .tup (il p.rows)
abbrev Bt (p : Pb) : D := .tup (p.bs.map btD)
theorem okN_bt {b : List Sm} : okN 3 (btD b) = true := okN_tup fun d hd => by
  obtain ⟨s, _, rfl⟩ := List.mem_map.mp hd
  exact okN_two okN_il okN_int
theorem okN_Bt {p : Pb} : okN 4 (Bt p) = true := okN_tup fun d hd => by
  obtain ⟨s, _, rfl⟩ := List.mem_map.mp hd
  exact okN_bt
theorem okN_Rw {p : Pb} : okN 4 (Rw p) = true := okN_il
theorem uniq_self : ∀ {l : List Int}, l.Nodup → uniq l = l
  | [], _ => rfl
  | x :: l, h => by
    obtain ⟨h1, h2⟩ := List.nodup_cons.mp h
    rw [uniq, if_neg h1, uniq_self h2]
theorem isI_ok' {i a b : Int} (h : a ≤ i ∧ i ≤ b) : isI (.int i) a b = true := by
  show (decide (a ≤ i) && decide (i ≤ b)) = true
  rw [decide_eq_true h.1, decide_eq_true h.2]
  rfl
theorem isT_ok' {ds : List D} {a b : Int} (h : a ≤ (ds.length : Int) ∧ (ds.length : Int) ≤ b) : isT (.tup ds) a b = true := by
  rw [isT_tup, decide_eq_true h.1, decide_eq_true h.2]
  rfl
theorem all_il {l : List Int} {a b : Int} (h : ∀ i ∈ l, a ≤ i ∧ i ≤ b) : ((il l).all fun d => isI d a b) = true := List.all_eq_true.mpr fun d hd => by
  obtain ⟨i, hi, rfl⟩ := List.mem_map.mp hd
  exact isI_ok' (h i hi)
theorem okSm {n : Nat} {s : Sm} (h : okS n s) : okSample (smD s) n = true := by
  obtain ⟨h0, h1, h2, h3, h4, h5⟩ := h
  have hl : 0 < s.1.length := List.length_pos_iff.mpr h0
  show (isT (.tup (il s.1)) 1 4 && ((((il s.1).all fun d => isI d 0 ((n : Int) - 1)) && distinct (il s.1)) && isI (.int s.2) (-1000000) 1000000)) = true
  rw [isT_ok' (by rw [il_len]; omega), all_il (fun i hi => by have := h2 i hi; omega), isI_ok' (by omega)]
  simp only [distinct, intsD_il, uniq_self h3, Nat.le_refl, decide_true, Bool.and_self]
theorem okBt {n : Nat} {b : List Sm} (h : okB n b) : okBatch n (btD b) = true := by
  show (isT (.tup (b.map smD)) 0 6 && ((b.map smD).all fun s => okSample s n)) = true
  have h1 := h.1
  rw [isT_ok' (by rw [List.length_map]; omega), Bool.true_and]
  exact List.all_eq_true.mpr fun d hd => by
    obtain ⟨s, hs, rfl⟩ := List.mem_map.mp hd
    exact okSm (h.2 s hs)
theorem okRw {p : Pb} (h : okP p) : okRows (Rw p) = true := by
  show (isT (.tup (il p.rows)) 1 20 && ((il p.rows).all fun d => isI d (-1000000) 1000000)) = true
  have h1 := h.n0
  have h2 := h.n
  rw [isT_ok' (by rw [il_len]; omega), all_il (fun i hi => by have := h.r i hi; omega)]
  rfl
theorem okBs {p : Pb} (h : okP p) : okBatches (Bt p) (lenD (Rw p)) = true := by
  have hl : lenD (Rw p) = (p.rows.length : Int) := congrArg (fun k : Nat => (k : Int)) il_len
  rw [hl]
  show (isT (.tup (p.bs.map btD)) 1 20 && ((p.bs.map btD).all (okBatch p.rows.length))) = true
  have h1 := h.b0
  have h2 := h.b
  rw [isT_ok' (by rw [List.length_map]; omega), Bool.true_and]
  exact List.all_eq_true.mpr fun d hd => by
    obtain ⟨s, hs, rfl⟩ := List.mem_map.mp hd
    exact okBt (h.bs s hs)
def Bad (v : D) : Prop := okN 5 v = true ∧ isProb v = false
section
variable {p : Pb} (h : okP p)
include h
theorem good_p : okN 5 (pbD p) = true ∧ isProb (pbD p) = true := by
  refine ⟨okN_four okN_Rw okN_Bt okN_int okN_int, ?_⟩
  show (okRows (Rw p) && (okBatches (Bt p) (lenD (Rw p)) && (isI (.int p.dv) 1 1000 && isI (.int p.cl) 1 1000))) = true
  have h1 := h.dv
  have h2 := h.cl
  rw [okRw h, okBs h, isI_ok' (by omega), isI_ok' (by omega)]
  rfl
theorem bad_b {x y z : D} (hx : okN 4 x = true) (hy : okN 4 y = true) (hz : okN 4 z = true) (e : okBatches x (lenD (Rw p)) = false) : Bad (.tup [Rw p, x, y, z]) := by
  refine ⟨okN_four okN_Rw hx hy hz, ?_⟩
  show (okRows (Rw p) && (okBatches x (lenD (Rw p)) && _)) = false
  rw [e, Bool.false_and, Bool.and_false]
theorem bad_d {x : D} (hx : okN 4 x = true) (e : isI x 1 1000 = false) : Bad (.tup [Rw p, Bt p, x, .int p.cl]) := by
  refine ⟨okN_four okN_Rw okN_Bt hx okN_int, ?_⟩
  show (okRows (Rw p) && (okBatches (Bt p) (lenD (Rw p)) && (isI x 1 1000 && _))) = false
  rw [e, Bool.false_and, Bool.and_false, Bool.and_false]
theorem bad_c {x : D} (hx : okN 4 x = true) (e : isI x 1 1000 = false) : Bad (.tup [Rw p, Bt p, .int p.dv, x]) := by
  refine ⟨okN_four okN_Rw okN_Bt okN_int hx, ?_⟩
  show (okRows (Rw p) && (okBatches (Bt p) (lenD (Rw p)) && (_ && isI x 1 1000))) = false
  rw [e, Bool.and_false, Bool.and_false, Bool.and_false]
end
theorem good_s {s : Int × Int × Int} (h : okT s) : okN 1 (stD s) = true ∧ isSet (stD s) = true := by
  refine ⟨rfl, ?_⟩
  show (isI (.int s.1) 1 4 && (isI (.int s.2.1) 1 20 && isI (.int s.2.2) 1 20)) = true
  have h1 := h.a
  have h2 := h.b
  have h3 := h.c
  rw [isI_ok' (by omega), isI_ok' (by omega), isI_ok' (by omega)]
  rfl
end Den

namespace Den
open PySem PySem.Spec PyProof.Rows L2
open Evl (Ex)
variable {C : Cl} {w : List WO}
def e1 : D := .tup [.tup []]
def W1 (p : Pb) : List D := [.non, .lst [Rw p, Bt p, .int p.dv, .int p.cl], .tup [Rw p, Bt p, .int p.dv], .tup [Rw p, Bt p, .int p.dv, .int p.cl, .int 1], .tup [.lst (il p.rows), Bt p, .int p.dv, .int p.cl], .tup [.tup [], Bt p, .int p.dv, .int p.cl],
  .tup [.tup (List.replicate 21 [D.int 0]).flatten, e1, .int 1, .int 1]]
def W2 (p : Pb) : List D := [.tup [.tup [.int 1000001], e1, .int 1, .int 1], .tup [.tup [.int (-1000001)], e1, .int 1, .int 1], .tup [.tup [.str "0"], e1, .int 1, .int 1], .tup [.tup [.non], e1, .int 1, .int 1], .tup [Rw p, .lst (p.bs.map btD), .int p.dv, .int p.cl]]
def W3 (p : Pb) (b : D) : List D := [.tup [Rw p, .tup [], .int p.dv, .int p.cl], .tup [Rw p, .tup (List.replicate 21 [D.tup []]).flatten, .int p.dv, .int p.cl], .tup [Rw p, .tup [b, .non], .int p.dv, .int p.cl], .tup [Rw p, .tup [.lst []], .int p.dv, .int p.cl]]
def w4 (p : Pb) (x : D) : List D := [.tup [Rw p, Bt p, x, .int p.cl], .tup [Rw p, Bt p, .int p.dv, x]]
def W4 (p : Pb) : List D := w4 p (.int 0) ++ w4 p (.int 1001) ++ w4 p (.int (-1)) ++ w4 p .non ++ w4 p (.str "2")
def gd : D := .tup [.tup [.int 0, .int 1], .int 3]
def w5 (s : D) : D := .tup [.tup [.int 5, .int 6], .tup [.tup [gd], .tup [gd, s]], .int 1, .int 1]
def W5s : List D := [.non, .tup [.tup [.int 0, .int 1]], .tup [.tup [.int 0, .int 1], .int 3, .int 4], .lst [.tup [.int 0, .int 1], .int 3], .tup [.lst [.int 0, .int 1], .int 3], .tup [.tup [], .int 3], .tup [.tup [.int 0, .int 0], .int 3], .tup [.tup [.int 0, .int 2], .int 3], .tup [.tup [.int (-1), .int 0], .int 3], .tup [.tup [.int 0, .int 1], .int 1000001], .tup [.tup [.int 0, .int 1], .int (-1000001)], .tup [.tup [.int 0, .int 1], .non], .tup [.tup [.int 0, .str "1"], .int 3]]
def W6 : List D := [.tup [.tup (List.replicate 5 [D.int 0]).flatten, .tup [.tup [.tup [.tup [.int 0, .int 1, .int 2, .int 3, .int 4], .int 1]]], .int 1, .int 1], .tup [.tup [.int 5, .int 6], .tup [.tup (List.replicate 7 [gd]).flatten], .int 1, .int 1]]
def W7 (p : Pb) : List D := [.tup [.tup [.bl true], e1, .int 1, .int 1], .tup [Rw p, Bt p, .bl true, .int p.cl], .tup [Rw p, Bt p, .int p.dv, .bl true], .tup [.tup [.int 5, .int 6], .tup [.tup [.tup [.tup [.int 0, .int 1], .bl false]]], .int 1, .int 1], .tup [.tup [.int 5, .int 6], .tup [.tup [.tup [.tup [.bl false, .int 1], .int 3]]], .int 1, .int 1]]
theorem fa {P : D → Prop} {x : D} {xs : List D} (h : P x) (t : ∀ v ∈ xs, P v) : ∀ v ∈ x :: xs, P v := List.forall_mem_cons.mpr ⟨h, t⟩
theorem fn {P : D → Prop} : ∀ v ∈ ([] : List D), P v := fun v h => by cases h
theorem fapp {P : D → Prop} {xs ys : List D} (h : ∀ v ∈ xs, P v) (t : ∀ v ∈ ys, P v) : ∀ v ∈ xs ++ ys, P v := List.forall_mem_append.mpr ⟨h, t⟩
theorem cl_bad {v : D} (a : okN 5 v = true := by rfl) (b : isProb v = false := by rfl) : Bad v := ⟨a, b⟩
section
variable {p : Pb} (h : okP p)
include h
theorem bad1 : ∀ v ∈ W1 p, Bad v :=
  fa cl_bad (fa cl_bad (fa ⟨okN_tup (fun d hd => by
      simp only [List.mem_cons, List.not_mem_nil, or_false] at hd
      rcases hd with rfl | rfl | rfl
      · exact okN_Rw
      · exact okN_Bt
      · exact okN_int), rfl⟩ (fa ⟨okN_tup (fun d hd => by
      simp only [List.mem_cons, List.not_mem_nil, or_false] at hd
      rcases hd with rfl | rfl | rfl | rfl | rfl
      · exact okN_Rw
      · exact okN_Bt
      · exact okN_int
      · exact okN_int
      · exact okN_int), rfl⟩ (fa ⟨okN_four rfl okN_Bt okN_int okN_int, rfl⟩ (fa ⟨okN_four rfl okN_Bt okN_int okN_int, rfl⟩ (fa cl_bad fn))))))
theorem bad2 : ∀ v ∈ W2 p, Bad v := fa cl_bad (fa cl_bad (fa cl_bad (fa cl_bad (fa (bad_b h rfl okN_int okN_int rfl) fn))))
theorem bad3 {b : List Sm} : ∀ v ∈ W3 p (btD b), Bad v :=
  fa (bad_b h rfl okN_int okN_int rfl) (fa (bad_b h rfl okN_int okN_int rfl) (fa (bad_b h (okN_two okN_bt rfl) okN_int okN_int (by
    show (_ && ([btD b, D.non].all (okBatch _))) = false
    rw [List.all_cons, List.all_cons]
    show (_ && (_ && (false && _))) = false
    simp)) (fa (bad_b h rfl okN_int okN_int rfl) fn)))
theorem bad4 : ∀ v ∈ W4 p, Bad v := by
  have k : ∀ x, okN 4 x = true → isI x 1 1000 = false → ∀ v ∈ w4 p x, Bad v := fun x hx e => fa (bad_d h hx e) (fa (bad_c h hx e) fn)
  exact fapp (fapp (fapp (fapp (k _ rfl rfl) (k _ rfl rfl)) (k _ rfl rfl)) (k _ rfl rfl)) (k _ rfl rfl)
theorem bad7 : ∀ v ∈ W7 p, Bad v := fa cl_bad (fa (bad_d h rfl rfl) (fa (bad_c h rfl rfl) (fa cl_bad (fa cl_bad fn))))
end
theorem bad5 : ∀ v ∈ W5s.map w5, Bad v := by
  show ∀ v ∈ [w5 _, w5 _, w5 _, w5 _, w5 _, w5 _, w5 _, w5 _, w5 _, w5 _, w5 _, w5 _, w5 _], Bad v
  exact fa cl_bad (fa cl_bad (fa cl_bad (fa cl_bad (fa cl_bad (fa cl_bad (fa cl_bad (fa cl_bad (fa cl_bad (fa cl_bad (fa cl_bad (fa cl_bad (fa cl_bad fn))))))))))))
theorem bad6 : ∀ v ∈ W6, Bad v := fa cl_bad (fa cl_bad fn)
def U (s : Int × Int × Int) : List D := [.non, .lst [.int s.1, .int s.2.1, .int s.2.2], .tup [.int s.1, .int s.2.1], .tup [.int s.1, .int s.2.1, .int s.2.2, .int 1], .tup [.int 0, .int 1, .int 1], .tup [.int 5, .int 1, .int 1], .tup [.int 1, .int 0, .int 1], .tup [.int 1, .int 21, .int 1], .tup [.int 1, .int 1, .int 0], .tup [.int 1, .int 1, .int 21], .tup [.str "1", .int 1, .int 1], .tup [.int 1, .non, .int 1], .tup [.bl true, .int 1, .int 1], .tup [.int 1, .bl true, .int 1], .tup [.int 1, .int 1, .bl true]]
def BadS (v : D) : Prop := okN 1 v = true ∧ isSet v = false
theorem cl_badS {v : D} (a : okN 1 v = true := by rfl) (b : isSet v = false := by rfl) : BadS v := ⟨a, b⟩
theorem badU {s : Int × Int × Int} : ∀ v ∈ U s, BadS v := fa cl_badS (fa cl_badS (fa cl_badS (fa cl_badS (fa cl_badS (fa cl_badS (fa cl_badS (fa cl_badS (fa cl_badS (fa cl_badS (fa cl_badS (fa cl_badS (fa cl_badS (fa cl_badS (fa cl_badS fn))))))))))))))
def mst : D := .tup [.tup (List.replicate 20 [D.int 1000000]).flatten, .tup (List.replicate 20 [D.tup (List.replicate 6 [D.tup [.tup [.int 0, .int 19, .int 5, .int 7], .int (-1000000)]]).flatten]).flatten, .int 1000, .int 1000]
theorem good_m : okN 5 mst = true ∧ isProb mst = true := ⟨by decide +kernel, by decide +kernel⟩
end Den

namespace Den
open PySem PySem.Spec PyProof.Rows L2
open Evl (Ex)
theorem lCat_ok {f1 f2 : ME XV} {q q1 q2 : Stt} {xs ys : List D} (h1 : f1 q = some (.ok (.d (.lst xs)), q1)) (h2 : f2 q1 = some (.ok (.d (.lst ys)), q2)) (hl : xs.length + ys.length ≤ big) : lCat f1 f2 q = some (.ok (xs ++ ys), q2) := by
  simp only [lCat, bnd, h1, h2, catL, if_pos hl, lft]
theorem loopD_to {a : XV → Stt → Option Stt} {g : MS} {d : D} {ds : List D} {q q1 q2 : Stt} {z : Option Fl} (h1 : a (.d d) q = some q1) (h2 : g q1 = some (.nx q2)) (h3 : loopD a g ds q2 = z) : loopD a g (d :: ds) q = z := by
  simp only [loopD, h1, h2, h3]
theorem cut1 {d : D} {ds : List D} : cutD (d :: ds) none (some 1) = [d] := by
  unfold cutD
  rw [HT.sIx_none]
  have e : HT.sIx (d :: ds).length (d :: ds).length (some 1) = 1 := by
    rw [show (1 : Int) = ((1 : Nat) : Int) from rfl, HT.sIx_nat]
    simp
  rw [e]
  rfl
abbrev S (ns : List Int) (p : Pb) (s : Int × Int × Int) (w : List WO) (L : Sl) (x9 x10 x11 x12 x13 : Sl) : Stt := ⟨[.dat (.seq (il ns)), .hnd 1, .dat (pbD p), .dat (stD s), .dat (Rw p), .dat (Bt p), .dat (.int p.dv), .dat (.int p.cl), L, x9, x10, x11, x12, x13], w⟩
theorem loop4 {ns : List Int} {p : Pb} {s : Int × Int × Int} {w : List WO} {C : Cl} : ∀ (xs L : List D) (x9 : Sl), L.length + 2 * xs.length ≤ 60 → ∃ x9', loopD (gSet 9) (lb_law_0 C) xs (S ns p s w (.ol L) x9 .un .un .un .un) = some (.nx (S ns p s w (.ol (L ++ xs.flatMap (w4 p))) x9' .un .un .un .un))
  | [], L, x9, _ => ⟨x9, by rw [List.flatMap_nil, List.append_nil]; rfl⟩
  | x :: xs, L, x9, hl => by
    have hl' : L.length + 2 * (xs.length + 1) ≤ 60 := hl
    have hL : L.length + 2 ≤ big := Nat.le_trans (show L.length + 2 ≤ 60 by omega) (by decide)
    obtain ⟨x9', h⟩ := loop4 (ns := ns) (p := p) (s := s) (w := w) (C := C) xs (L ++ w4 p x) (.dat x) (by rw [List.length_append]; show L.length + 2 + 2 * xs.length ≤ 60; omega)
    refine ⟨x9', loopD_to (q1 := S ns p s w (.ol L) (.dat x) .un .un .un .un) rfl (q2 := S ns p s w (.ol (L ++ w4 p x)) (.dat x) .un .un .un .un) (sSetL_to (lCat_ok rfl (eL_ok (lLst_ok (aCons_ok rfl (aCons_ok rfl rfl)) rfl (show 2 ≤ big by decide))) hL) (show 8 < 14 by decide) rfl) ?_⟩
    rw [h, List.flatMap_cons, List.append_assoc]
theorem loop5 {ns : List Int} {p : Pb} {s : Int × Int × Int} {w : List WO} {C : Cl} {x9 : Sl} : ∀ (xs L : List D) (x11 : Sl), L.length + xs.length ≤ 60 → ∃ x11', loopD (gSet 11) (lb_law_1 C) xs (S ns p s w (.ol L) x9 (.dat gd) x11 .un .un) = some (.nx (S ns p s w (.ol (L ++ xs.map w5)) x9 (.dat gd) x11' .un .un))
  | [], L, x11, _ => ⟨x11, by rw [List.map_nil, List.append_nil]; rfl⟩
  | x :: xs, L, x11, hl => by
    have hl' : L.length + (xs.length + 1) ≤ 60 := hl
    have hL : L.length < big := Nat.lt_of_lt_of_le (show L.length < 60 by omega) (by decide)
    obtain ⟨x11', h⟩ := loop5 (ns := ns) (p := p) (s := s) (w := w) (C := C) (x9 := x9) xs (L ++ [w5 x]) (.dat x) (by rw [List.length_append]; show L.length + 1 + xs.length ≤ 60; omega)
    refine ⟨x11', loopD_to (q1 := S ns p s w (.ol L) x9 (.dat gd) (.dat x) .un .un) rfl (q2 := S ns p s w (.ol (L ++ [w5 x])) x9 (.dat gd) (.dat x) .un .un) (sDrop_ok (eM1V_ok (x := w5 x) (y := .non) (q1 := S ns p s w (.ol L) x9 (.dat gd) (.dat x) .un .un) rfl rfl rfl (gApp_ok hL))) ?_⟩
    rw [h, List.map_cons, List.append_assoc]
    rfl
theorem law_ok {K : PySem.W.Frag} {mg : Str → Option Value} {C : Cl} (CO : ClOk K mg C) (ns : List Int) : ∃ w', G_law C [.d (.seq (ns.map .int))] [] = some (.ok (.d (.bl true)), w') := by
  obtain ⟨dg, hd, hs⟩ := stream_ok ns
  obtain ⟨p, pl, hp, _, hpr⟩ := problem_ok (dg := dg) (M := 9) hd (by decide) 0
  obtain ⟨s, pl2, ht, hst⟩ := setup_ok (dg := dg) hd pl
  obtain ⟨b, bs, hb⟩ : ∃ b bs, p.bs = b :: bs := by
    have h0 := hp.b0
    cases e : p.bs with
    | nil => rw [e] at h0; cases h0
    | cons b bs => exact ⟨b, bs, rfl⟩
  have gp := good_p hp
  have gs := good_s ht
  refine Rts.fnG ?_
  refine toR (sAsg_ok (eCall_ok (aCons_ok rfl (aCons_ok rfl (aCons_ok rfl rfl))) rfl hs) rfl) ?_
  refine toR (sAsg_ok (by exact eCall_ok (aCons_ok rfl (aCons_ok rfl rfl)) rfl hpr) rfl) ?_
  refine toR (sAsg_ok (by exact eCall_ok (aCons_ok rfl rfl) rfl hst) rfl) ?_
  refine toR (sIf_f (tOf_ok (eOp_ok (by exact eCall_w (aCons_ok rfl (aCons_ok rfl rfl)) rfl (kind_d gp.1 gp.2 gs.1 gs.2)) rfl rfl)) rfl) ?_
  refine toR (q1 := S ns p s (wS dg pl2) .un .un .un .un .un .un) (sAsg_ok rfl rfl) ?_
  refine toR (q1 := S ns p s (wS dg pl2) (.ol (W1 p)) .un .un .un .un .un) (by rfl) ?_
  refine toR (q1 := S ns p s (wS dg pl2) (.ol (W1 p ++ W2 p)) .un .un .un .un .un) (by rfl) ?_
  have h8 : ∀ L x9 x10 x11 x12 x13, (eOp gAdd (eSl (eVar 5) (ret none) (bnd (eC (.int 1)) fun x => lft ((toI x).map some))) (eTup (aCons (eC .non) aNil))) (S ns p s (wS dg pl2) L x9 x10 x11 x12 x13) = some (.ok (.d (.tup [btD b, .non])), S ns p s (wS dg pl2) L x9 x10 x11 x12 x13) := fun L x9 x10 x11 x12 x13 => by
    refine eOp_ok (x := .tup [btD b]) (q1 := S ns p s (wS dg pl2) L x9 x10 x11 x12 x13) ?_ (by exact eTup_ok rfl rfl (by decide)) rfl
    show some (Except.ok (XV.d (.tup (cutD (p.bs.map btD) none (some 1)))), _) = _
    rw [hb, List.map_cons, cut1]
  refine toR (q1 := S ns p s (wS dg pl2) (.ol (W1 p ++ W2 p ++ W3 p (btD b))) .un .un .un .un .un) (by
    refine sSetL_to (lCat_ok rfl (eL_ok (lLst_ok (aCons_ok rfl (aCons_ok rfl (aCons_ok (eTup_ok (aCons_ok rfl (aCons_ok (h8 _ _ _ _ _ _) rfl)) rfl (show 4 ≤ big by decide)) rfl))) rfl (show 4 ≤ big by decide))) (show 12 + 4 ≤ big by decide)) (show 8 < 14 by decide) rfl) ?_
  obtain ⟨x9, h9⟩ := loop4 (ns := ns) (p := p) (s := s) (w := wS dg pl2) (C := C) [.int 0, .int 1001, .int (-1), .non, .str "2"] (W1 p ++ W2 p ++ W3 p (btD b)) .un (by show 16 + 2 * 5 ≤ 60; decide)
  refine toR (sFor_ok rfl h9) ?_
  refine toR (sAsg_ok rfl rfl) ?_
  obtain ⟨x11, h11⟩ := loop5 (ns := ns) (p := p) (s := s) (w := wS dg pl2) (C := C) (x9 := x9) W5s (W1 p ++ W2 p ++ W3 p (btD b) ++ [D.int 0, .int 1001, .int (-1), .non, .str "2"].flatMap (w4 p)) .un (by show 26 + 13 ≤ 60; decide)
  refine toR (sFor_ok rfl (by exact h11)) ?_
  refine toR (q1 := S ns p s (wS dg pl2) (.ol (W1 p ++ W2 p ++ W3 p (btD b) ++ [D.int 0, .int 1001, .int (-1), .non, .str "2"].flatMap (w4 p) ++ W5s.map w5 ++ W6)) x9 (.dat gd) x11 .un .un) (sSetL_to (lCat_ok rfl rfl (show 39 + 2 ≤ big by decide)) (show 8 < 14 by decide) rfl) ?_
  obtain ⟨L, hL, hLb⟩ : ∃ L, L = W1 p ++ W2 p ++ W3 p (btD b) ++ [D.int 0, .int 1001, .int (-1), .non, .str "2"].flatMap (w4 p) ++ W5s.map w5 ++ W6 ++ W7 p ∧ ∀ v ∈ L, Bad v :=
    ⟨_, rfl, fapp (fapp (fapp (fapp (fapp (fapp (bad1 hp) (bad2 hp)) (bad3 hp)) (bad4 hp)) bad5) bad6) (bad7 hp)⟩
  refine toR (q1 := S ns p s (wS dg pl2) (.ol L) x9 (.dat gd) x11 .un .un) (by
    rw [hL]
    exact sSetL_to (lCat_ok rfl rfl (show 41 + 5 ≤ big by decide)) (show 8 < 14 by decide) rfl) ?_
  obtain ⟨q1, hq1, hI⟩ := loopD_inv (a := gSet 12) (g := lb_law_2 C) (fun es q => (∀ v ∈ es, Bad v) ∧ ∃ x, q = S ns p s (wS dg pl2) (.dat (.lst L)) x9 (.dat gd) x11 x .un)
    (fun d es q ⟨hb, x, e⟩ => by
      subst e
      have hd := hb d (by simp)
      exact ⟨_, _, rfl, sIf_f (tOf_ok (eOp_ok (by exact eCall_w (aCons_ok (eTup_ok (aCons_ok rfl rfl) rfl (show 1 ≤ big by decide)) (aCons_ok rfl rfl)) rfl (kind_p hd.1 hd.2)) rfl rfl)) rfl, fun v hv => hb v (by simp [hv]), _, rfl⟩) L _ ⟨hLb, .un, rfl⟩
  obtain ⟨_, x1, rfl⟩ := hI
  refine toR (sFor_ok rfl hq1) ?_
  obtain ⟨q2, hq2, hI2⟩ := loopD_inv (a := gSet 12) (g := lb_law_3 C) (fun es q => (∀ v ∈ es, BadS v) ∧ ∃ x, q = S ns p s (wS dg pl2) (.dat (.lst L)) x9 (.dat gd) x11 x .un)
    (fun d es q ⟨hb, x, e⟩ => by
      subst e
      have hd := hb d (by simp)
      exact ⟨_, _, rfl, sIf_f (tOf_ok (eOp_ok (by exact eCall_w (aCons_ok rfl (aCons_ok (eTup_ok (aCons_ok rfl rfl) rfl (show 1 ≤ big by decide)) rfl)) rfl (kind_s CO hd.1 hd.2)) rfl rfl)) rfl, fun v hv => hb v (by simp [hv]), _, rfl⟩) (U s) _ ⟨badU, x1, rfl⟩
  obtain ⟨_, x2, rfl⟩ := hI2
  refine toR (sFor_ok rfl hq2) ?_
  refine toR (q1 := S ns p s (wS dg pl2) (.dat (.lst L)) x9 (.dat gd) x11 x2 (.dat mst)) (by rfl) ?_
  obtain ⟨Q, hQ⟩ : ∃ Q, Q = S ns p s (wS dg pl2) (.dat (.lst L)) x9 (.dat gd) x11 x2 (.dat mst) := ⟨_, rfl⟩
  rw [← hQ]
  have hA : G_law_kind C [.d (.tup [mst]), .d (.tup [.tup [.int 4, .int 20, .int 20]])] Q.w = some (.ok (.d (.str "done")), Q.w) := kind_d good_m.1 good_m.2 rfl rfl
  have hB : G_law_kind C [.d (.tup [.tup [.tup [.int (-1000000)], .tup [.tup []], .int 1, .int 1]]), .d (.tup [.tup [.int 1, .int 1, .int 1]])] Q.w = some (.ok (.d (.str "done")), Q.w) := kind_d rfl rfl rfl rfl
  have hv : eVar 13 Q = some (.ok (.d mst), Q) := by rw [hQ]; rfl
  exact Rts.of (sRet_ok (ifb_t (tOf_ok (eOp_ok (eCall_w (aCons_ok (eTup_ok (aCons_ok hv rfl) rfl (show 1 ≤ big by decide)) (aCons_ok rfl rfl)) rfl hA) rfl rfl)) (eOp_ok (y := .str "done") (eCall_w (aCons_ok rfl (aCons_ok rfl rfl)) rfl hB) rfl (by exact rfl))))
end Den

namespace Den
open PySem PySem.Spec PyProof.Rows L2
open Evl (Ex)
theorem all_mk {l : PySem.W.OpenLaw} {w : World} {K : PySem.W.Frag} {h : Heap} {mg : Str → Option Value} {fa f1 f2 f3 f4 f5 f6 f7 f8 f9 f10 f11 f12 f13 f14 f15 : Addr} (X : K.In h) (G : h.Ns mainGlobals mg) (hfa : mg "law" = some (.ref fa)) {od1 an1 : Option Addr} {sl1 : Array (Option Value)} {oc1 kV1 dc1 pm1 cd1 ct1 : Value} {od2 an2 : Option Addr} {sl2 : Array (Option Value)} {oc2 kV2 dc2 pm2 cd2 ct2 : Value} {od3 an3 : Option Addr} {sl3 : Array (Option Value)} {oc3 kV3 dc3 pm3 cd3 ct3 : Value} {od4 an4 : Option Addr} {sl4 : Array (Option Value)} {oc4 kV4 dc4 pm4 cd4 ct4 : Value} {od5 an5 : Option Addr} {sl5 : Array (Option Value)} {oc5 kV5 dc5 pm5 cd5 ct5 : Value} {od6 an6 : Option Addr} {sl6 : Array (Option Value)} {oc6 kV6 dc6 pm6 cd6 ct6 : Value} {od7 an7 : Option Addr} {sl7 : Array (Option Value)} {oc7 kV7 dc7 pm7 cd7 ct7 : Value} {od8 an8 : Option Addr} {sl8 : Array (Option Value)} {oc8 kV8 dc8 pm8 cd8 ct8 : Value} {od9 an9 : Option Addr} {sl9 : Array (Option Value)} {oc9 kV9 dc9 pm9 cd9 ct9 : Value} {od10 an10 : Option Addr} {sl10 : Array (Option Value)} {oc10 kV10 dc10 pm10 cd10 ct10 : Value} {od11 an11 : Option Addr} {sl11 : Array (Option Value)} {oc11 kV11 dc11 pm11 cd11 ct11 : Value} {od12 an12 : Option Addr} {sl12 : Array (Option Value)} {oc12 kV12 dc12 pm12 cd12 ct12 : Value} {od13 an13 : Option Addr} {sl13 : Array (Option Value)} {oc13 kV13 dc13 pm13 cd13 ct13 : Value} {od14 an14 : Option Addr} {sl14 : Array (Option Value)} {oc14 kV14 dc14 pm14 cd14 ct14 : Value} {od15 an15 : Option Addr} {sl15 : Array (Option Value)} {oc15 kV15 dc15 pm15 cd15 ct15 : Value} {A1 A2 A3 : Addr} {u1 u2 u3 u4 u5 u6 u7 u8 u9 u10 : PySem.Tok}
    (a1 : PySem.W.nsIn K mainGlobals "is_integer" = some (some (.ref f1))) (l1 : K.lookup f1 = some ⟨oc1, od1, .func (PySem.W.fnOf "is_integer" "is_integer" (defArgs s_is_integer) (defBody s_is_integer) (defScope s_is_integer) .none kV1 dc1 pm1 an1 cd1 ct1), sl1⟩) (c1 : PySem.W.codeIn K cd1 "is_integer" = true) (k1 : PySem.W.keepIn K (.ref f1) = true)
    (a2 : PySem.W.nsIn K mainGlobals "is_tuple" = some (some (.ref f2))) (l2 : K.lookup f2 = some ⟨oc2, od2, .func (PySem.W.fnOf "is_tuple" "is_tuple" (defArgs s_is_tuple) (defBody s_is_tuple) (defScope s_is_tuple) .none kV2 dc2 pm2 an2 cd2 ct2), sl2⟩) (c2 : PySem.W.codeIn K cd2 "is_tuple" = true) (k2 : PySem.W.keepIn K (.ref f2) = true)
    (a3 : PySem.W.nsIn K mainGlobals "check_problem" = some (some (.ref f3))) (l3 : K.lookup f3 = some ⟨oc3, od3, .func (PySem.W.fnOf "check_problem" "check_problem" (defArgs s_check_problem) (defBody s_check_problem) (defScope s_check_problem) .none kV3 dc3 pm3 an3 cd3 ct3), sl3⟩) (c3 : PySem.W.codeIn K cd3 "check_problem" = true) (k3 : PySem.W.keepIn K (.ref f3) = true)
    (a4 : PySem.W.nsIn K mainGlobals "_check_rows" = some (some (.ref f4))) (l4 : K.lookup f4 = some ⟨oc4, od4, .func (PySem.W.fnOf "_check_rows" "_check_rows" (defArgs s_check_rows) (defBody s_check_rows) (defScope s_check_rows) .none kV4 dc4 pm4 an4 cd4 ct4), sl4⟩) (c4 : PySem.W.codeIn K cd4 "_check_rows" = true) (k4 : PySem.W.keepIn K (.ref f4) = true)
    (a5 : PySem.W.nsIn K mainGlobals "_check_batches" = some (some (.ref f5))) (l5 : K.lookup f5 = some ⟨oc5, od5, .func (PySem.W.fnOf "_check_batches" "_check_batches" (defArgs s_check_batches) (defBody s_check_batches) (defScope s_check_batches) .none kV5 dc5 pm5 an5 cd5 ct5), sl5⟩) (c5 : PySem.W.codeIn K cd5 "_check_batches" = true) (k5 : PySem.W.keepIn K (.ref f5) = true)
    (a6 : PySem.W.nsIn K mainGlobals "_check_sample" = some (some (.ref f6))) (l6 : K.lookup f6 = some ⟨oc6, od6, .func (PySem.W.fnOf "_check_sample" "_check_sample" (defArgs s_check_sample) (defBody s_check_sample) (defScope s_check_sample) .none kV6 dc6 pm6 an6 cd6 ct6), sl6⟩) (c6 : PySem.W.codeIn K cd6 "_check_sample" = true) (k6 : PySem.W.keepIn K (.ref f6) = true)
    (a7 : PySem.W.nsIn K mainGlobals "check_setup" = some (some (.ref f7))) (l7 : K.lookup f7 = some ⟨oc7, od7, .func (PySem.W.fnOf "check_setup" "check_setup" (defArgs s_check_setup) (defBody s_check_setup) (defScope s_check_setup) .none kV7 dc7 pm7 an7 cd7 ct7), sl7⟩) (c7 : PySem.W.codeIn K cd7 "check_setup" = true) (k7 : PySem.W.keepIn K (.ref f7) = true)
    (a8 : PySem.W.nsIn K mainGlobals "_law_cell" = some (some (.ref f8))) (l8 : K.lookup f8 = some ⟨oc8, od8, .func (PySem.W.fnOf "_law_cell" "_law_cell" (defArgs s_law_cell) (defBody s_law_cell) (defScope s_law_cell) .none kV8 dc8 pm8 an8 cd8 ct8), sl8⟩) (c8 : PySem.W.codeIn K cd8 "_law_cell" = true) (k8 : PySem.W.keepIn K (.ref f8) = true)
    (a9 : PySem.W.nsIn K mainGlobals "_law_draws" = some (some (.ref f9))) (l9 : K.lookup f9 = some ⟨oc9, od9, .func (PySem.W.fnOf "_law_draws" "_law_draws" (defArgs s_law_draws) (defBody s_law_draws) (defScope s_law_draws) .none kV9 dc9 pm9 an9 cd9 ct9), sl9⟩) (c9 : PySem.W.codeIn K cd9 "_law_draws" = true) (k9 : PySem.W.keepIn K (.ref f9) = true)
    (a10 : PySem.W.nsIn K mainGlobals "_law_stream" = some (some (.ref f10))) (l10 : K.lookup f10 = some ⟨oc10, od10, .func (PySem.W.fnOf "_law_stream" "_law_stream" (defArgs s_law_stream) (defBody s_law_stream) (defScope s_law_stream) .none kV10 dc10 pm10 an10 cd10 ct10), sl10⟩) (c10 : PySem.W.codeIn K cd10 "_law_stream" = true) (k10 : PySem.W.keepIn K (.ref f10) = true)
    (a11 : PySem.W.nsIn K mainGlobals "_law_next" = some (some (.ref f11))) (l11 : K.lookup f11 = some ⟨oc11, od11, .func (PySem.W.fnOf "_law_next" "_law_next" (defArgs s_law_next) (defBody s_law_next) (defScope s_law_next) .none kV11 dc11 pm11 an11 cd11 ct11), sl11⟩) (c11 : PySem.W.codeIn K cd11 "_law_next" = true) (k11 : PySem.W.keepIn K (.ref f11) = true)
    (a12 : PySem.W.nsIn K mainGlobals "_law_problem" = some (some (.ref f12))) (l12 : K.lookup f12 = some ⟨oc12, od12, .func (PySem.W.fnOf "_law_problem" "_law_problem" (defArgs s_law_problem) (defBody s_law_problem) (defScope s_law_problem) .none kV12 dc12 pm12 an12 cd12 ct12), sl12⟩) (c12 : PySem.W.codeIn K cd12 "_law_problem" = true) (k12 : PySem.W.keepIn K (.ref f12) = true)
    (a13 : PySem.W.nsIn K mainGlobals "_law_setup" = some (some (.ref f13))) (l13 : K.lookup f13 = some ⟨oc13, od13, .func (PySem.W.fnOf "_law_setup" "_law_setup" (defArgs s_law_setup) (defBody s_law_setup) (defScope s_law_setup) .none kV13 dc13 pm13 an13 cd13 ct13), sl13⟩) (c13 : PySem.W.codeIn K cd13 "_law_setup" = true) (k13 : PySem.W.keepIn K (.ref f13) = true)
    (a14 : PySem.W.nsIn K mainGlobals "_law_kind" = some (some (.ref f14))) (l14 : K.lookup f14 = some ⟨oc14, od14, .func (PySem.W.fnOf "_law_kind" "_law_kind" (defArgs s_law_kind) (defBody s_law_kind) (defScope s_law_kind) .none kV14 dc14 pm14 an14 cd14 ct14), sl14⟩) (c14 : PySem.W.codeIn K cd14 "_law_kind" = true) (k14 : PySem.W.keepIn K (.ref f14) = true)
    (a15 : PySem.W.nsIn K mainGlobals "law" = some (some (.ref f15))) (l15 : K.lookup f15 = some ⟨oc15, od15, .func (PySem.W.fnOf "law" "law" (defArgs s_law) (defBody s_law) (defScope s_law) .none kV15 dc15 pm15 an15 cd15 ct15), sl15⟩) (c15 : PySem.W.codeIn K cd15 "law" = true) (k15 : PySem.W.keepIn K (.ref f15) = true)
    (z1 : PySem.W.nsIn K mainGlobals "ValueError" = some none)
    (z2 : PySem.W.nsIn K mainGlobals "abs" = some none)
    (z3 : PySem.W.nsIn K mainGlobals "int" = some none)
    (z4 : PySem.W.nsIn K mainGlobals "isinstance" = some none)
    (z5 : PySem.W.nsIn K mainGlobals "len" = some none)
    (z6 : PySem.W.nsIn K mainGlobals "list" = some none)
    (z7 : PySem.W.nsIn K mainGlobals "min" = some none)
    (z8 : PySem.W.nsIn K mainGlobals "range" = some none)
    (z9 : PySem.W.nsIn K mainGlobals "set" = some none)
    (z10 : PySem.W.nsIn K mainGlobals "tuple" = some none)
    (z11 : PySem.W.nsIn K mainGlobals "type" = some none)
    (y1 : PySem.W.nsIn K mainGlobals "FARTHEST" = some (some (.int (1000000) u1)))
    (y2 : PySem.W.nsIn K mainGlobals "MOST_ROWS" = some (some (.int (20) u2)))
    (y3 : PySem.W.nsIn K mainGlobals "MOST_BATCHES" = some (some (.int (20) u3)))
    (y4 : PySem.W.nsIn K mainGlobals "MOST_SAMPLES" = some (some (.int (6) u4)))
    (y5 : PySem.W.nsIn K mainGlobals "MOST_LOOKUPS" = some (some (.int (4) u5)))
    (y6 : PySem.W.nsIn K mainGlobals "MOST_DIVISOR" = some (some (.int (1000) u6)))
    (y7 : PySem.W.nsIn K mainGlobals "MOST_CLIP" = some (some (.int (1000) u7)))
    (y8 : PySem.W.nsIn K mainGlobals "MOST_TRAINERS" = some (some (.int (4) u8)))
    (y9 : PySem.W.nsIn K mainGlobals "MOST_WINDOW" = some (some (.int (20) u9)))
    (y10 : PySem.W.nsIn K mainGlobals "MOST_LEAD" = some (some (.int (20) u10)))
    (n1 : PySem.W.nsIn K mainGlobals "AheadError" = some (some (.ref A1))) (x1 : PySem.W.excIn K A1 [.type "ValueError", .type "Exception", .type "BaseException", .type "object"] "ValueError.__new__" = true) (q1 : PySem.W.keepIn K (.ref A1) = true) (b1 : PySem.W.subIn K (.ref A1) (.type "BaseException") = some true) (t1 : PySem.W.typeIn K (.ref A1) = some (.type "type")) (i1 : PySem.W.isClsIn K A1 = true)
    (n2 : PySem.W.nsIn K mainGlobals "BadProblem" = some (some (.ref A2))) (x2 : PySem.W.excIn K A2 [.type "ValueError", .type "Exception", .type "BaseException", .type "object"] "ValueError.__new__" = true) (q2 : PySem.W.keepIn K (.ref A2) = true) (b2 : PySem.W.subIn K (.ref A2) (.type "BaseException") = some true) (t2 : PySem.W.typeIn K (.ref A2) = some (.type "type")) (i2 : PySem.W.isClsIn K A2 = true)
    (n3 : PySem.W.nsIn K mainGlobals "BadSetup" = some (some (.ref A3))) (x3 : PySem.W.excIn K A3 [.type "ValueError", .type "Exception", .type "BaseException", .type "object"] "ValueError.__new__" = true) (q3 : PySem.W.keepIn K (.ref A3) = true) (b3 : PySem.W.subIn K (.ref A3) (.type "BaseException") = some true) (t3 : PySem.W.typeIn K (.ref A3) = some (.type "type")) (i3 : PySem.W.isClsIn K A3 = true)
    (p21 : PySem.W.findIn K (.ref A2) "__getattribute__" = some (some (.builtin "BaseException.__getattribute__"))) (p22 : PySem.W.findIn K (.ref A2) "__getattr__" = some none) (p24 : PySem.W.hasDictIn K A2 = true) (p25 : PySem.W.findIn K (.ref A2) "__class__" = some (some (.builtin "object.__class__"))) (p26 : PySem.W.specialIn K (.builtin "object.__class__") "__get__" = some (some (.builtin "getset_descriptor.__get__"))) (p27 : PySem.W.takesIn K (.builtin "object.__class__") = some true) (p28 : PySem.W.mroIn K A2 (.type "object") = some true)
    (p31 : PySem.W.findIn K (.ref A3) "__getattribute__" = some (some (.builtin "BaseException.__getattribute__"))) (p32 : PySem.W.findIn K (.ref A3) "__getattr__" = some none) (p34 : PySem.W.hasDictIn K A3 = true) (p35 : PySem.W.findIn K (.ref A3) "__class__" = some (some (.builtin "object.__class__"))) (p36 : PySem.W.specialIn K (.builtin "object.__class__") "__get__" = some (some (.builtin "getset_descriptor.__get__"))) (p37 : PySem.W.takesIn K (.builtin "object.__class__") = some true) (p38 : PySem.W.mroIn K A3 (.type "object") = some true)
    (v1 : PySem.W.subIn K (.ref A2) (.ref A1) = some true)
    (v2 : PySem.W.subIn K (.ref A2) (.type "ValueError") = some true)
    (v3 : PySem.W.subIn K (.ref A3) (.ref A1) = some true)
    (w1 : PySem.W.subIn K (.ref A2) (.ref A2) = some true)
    (w2 : PySem.W.subIn K (.ref A3) (.ref A2) = some false)
    (w3 : PySem.W.subIn K (.ref A2) (.ref A3) = some false)
    (w4 : PySem.W.subIn K (.ref A3) (.ref A3) = some true)
    : ∃ fd : FuncData, (∀ (s : Shared) (v : Value), BindsTo s fd ⟨[v], []⟩ [("script", v)]) ∧ ∀ base : Heap, K.In base → base.Ns mainGlobals mg → FnOk l.prog w K mg base CX0 6 fa fd ["script"] (spT K) := by
  have e := hfa.symm.trans (PySem.W.mg_of X G a15)
  cases e
  have B : Bl mg := ⟨PySem.W.mg_none_of X G z1, PySem.W.mg_none_of X G z2, PySem.W.mg_none_of X G z3, PySem.W.mg_none_of X G z4, PySem.W.mg_none_of X G z5, PySem.W.mg_none_of X G z6, PySem.W.mg_none_of X G z7, PySem.W.mg_none_of X G z8, PySem.W.mg_none_of X G z9, PySem.W.mg_none_of X G z10, PySem.W.mg_none_of X G z11, ⟨_, PySem.W.mg_of X G y1⟩, ⟨_, PySem.W.mg_of X G y2⟩, ⟨_, PySem.W.mg_of X G y3⟩, ⟨_, PySem.W.mg_of X G y4⟩, ⟨_, PySem.W.mg_of X G y5⟩, ⟨_, PySem.W.mg_of X G y6⟩, ⟨_, PySem.W.mg_of X G y7⟩, ⟨_, PySem.W.mg_of X G y8⟩, ⟨_, PySem.W.mg_of X G y9⟩, ⟨_, PySem.W.mg_of X G y10⟩⟩
  have CO : ClOk K mg ⟨A1, A2, A3⟩ := ⟨⟨PySem.W.mg_of X G n1, x1, q1, b1, t1⟩, ⟨PySem.W.mg_of X G n2, x2, q2, b2, t2⟩, ⟨PySem.W.mg_of X G n3, x3, q3, b3, t3⟩, ⟨p21, p22, b2, p24, p25, p26, p27, p28⟩, ⟨p31, p32, b3, p34, p35, p36, p37, p38⟩, kit_mk i1 t1 v1, kit_mkT (by decide +kernel) v2, kit_mk i1 t1 v3, exm_mk b2 i2 t2 w1, exm_mk b2 i2 t2 w2, exm_mk b3 i3 t3 w3, exm_mk b3 i3 t3 w4⟩
  have F1 := fun_mk (st := s_is_integer) l1 c1 k1
  have bb1 := F1.binds (ps := ["value", "least", "most"]) fun _ _ _ _ _ _ us hl => match us, hl with | [_, _, _], _ => rfl
  have F2 := fun_mk (st := s_is_tuple) l2 c2 k2
  have bb2 := F2.binds (ps := ["value", "fewest", "most"]) fun _ _ _ _ _ _ us hl => match us, hl with | [_, _, _], _ => rfl
  have F3 := fun_mk (st := s_check_problem) l3 c3 k3
  have bb3 := F3.binds (ps := ["value"]) fun _ _ _ _ _ _ us hl => match us, hl with | [_], _ => rfl
  have F4 := fun_mk (st := s_check_rows) l4 c4 k4
  have bb4 := F4.binds (ps := ["rows"]) fun _ _ _ _ _ _ us hl => match us, hl with | [_], _ => rfl
  have F5 := fun_mk (st := s_check_batches) l5 c5 k5
  have bb5 := F5.binds (ps := ["batches", "row_count"]) fun _ _ _ _ _ _ us hl => match us, hl with | [_, _], _ => rfl
  have F6 := fun_mk (st := s_check_sample) l6 c6 k6
  have bb6 := F6.binds (ps := ["sample", "row_count"]) fun _ _ _ _ _ _ us hl => match us, hl with | [_, _], _ => rfl
  have F7 := fun_mk (st := s_check_setup) l7 c7 k7
  have bb7 := F7.binds (ps := ["value"]) fun _ _ _ _ _ _ us hl => match us, hl with | [_], _ => rfl
  have F8 := fun_mk (st := s_law_cell) l8 c8 k8
  have bb8 := F8.binds (ps := ["script", "k"]) fun _ _ _ _ _ _ us hl => match us, hl with | [_, _], _ => rfl
  have F9 := fun_mk (st := s_law_draws) l9 c9 k9
  have bb9 := F9.binds (ps := ["cell", "count"]) fun _ _ _ _ _ _ us hl => match us, hl with | [_, _], _ => rfl
  have F10 := fun_mk (st := s_law_stream) l10 c10 k10
  have bb10 := F10.binds (ps := ["script", "first", "count"]) fun _ _ _ _ _ _ us hl => match us, hl with | [_, _, _], _ => rfl
  have F11 := fun_mk (st := s_law_next) l11 c11 k11
  have bb11 := F11.binds (ps := ["stream", "many"]) fun _ _ _ _ _ _ us hl => match us, hl with | [_, _], _ => rfl
  have F12 := fun_mk (st := s_law_problem) l12 c12 k12
  have bb12 := F12.binds (ps := ["stream", "most"]) fun _ _ _ _ _ _ us hl => match us, hl with | [_, _], _ => rfl
  have F13 := fun_mk (st := s_law_setup) l13 c13 k13
  have bb13 := F13.binds (ps := ["stream"]) fun _ _ _ _ _ _ us hl => match us, hl with | [_], _ => rfl
  have F14 := fun_mk (st := s_law_kind) l14 c14 k14
  have bb14 := F14.binds (ps := ["problem", "setup"]) fun _ _ _ _ _ _ us hl => match us, hl with | [_, _], _ => rfl
  have F15 := fun_mk (st := s_law) l15 c15 k15
  refine ⟨PySem.W.fnOf "law" "law" (defArgs s_law) (defBody s_law) (defScope s_law) .none kV15 dc15 pm15 an15 cd15 ct15, fun s v => .of_eq rfl, fun base _ _ => ?_⟩
  have e_is_integer := d_is_integer (P := l.prog) (w := w) (base := base) B  F1 (PySem.W.mg_of X G a1) bb1
  have e_is_tuple := d_is_tuple (P := l.prog) (w := w) (base := base) B  F2 (PySem.W.mg_of X G a2) bb2
  have e_check_rows := d_check_rows (P := l.prog) (w := w) (base := base) B CO e_is_tuple e_is_integer F4 (PySem.W.mg_of X G a4) bb4
  have e_check_sample := d_check_sample (P := l.prog) (w := w) (base := base) B CO e_is_tuple e_is_integer F6 (PySem.W.mg_of X G a6) bb6
  have e_check_batches := d_check_batches (P := l.prog) (w := w) (base := base) B CO e_is_tuple e_check_sample F5 (PySem.W.mg_of X G a5) bb5
  have e_check_problem := d_check_problem (P := l.prog) (w := w) (base := base) B CO e_is_tuple e_check_rows e_check_batches e_is_integer F3 (PySem.W.mg_of X G a3) bb3
  have e_check_setup := d_check_setup (P := l.prog) (w := w) (base := base) B CO e_is_tuple e_is_integer F7 (PySem.W.mg_of X G a7) bb7
  have e_law_cell := d_law_cell (P := l.prog) (w := w) (base := base) B  F8 (PySem.W.mg_of X G a8) bb8
  have e_law_draws := d_law_draws (P := l.prog) (w := w) (base := base) B  F9 (PySem.W.mg_of X G a9) bb9
  have e_law_stream := d_law_stream (P := l.prog) (w := w) (base := base) B e_law_draws e_law_cell F10 (PySem.W.mg_of X G a10) bb10
  have e_law_next := d_law_next (P := l.prog) (w := w) (base := base) B  F11 (PySem.W.mg_of X G a11) bb11
  have e_law_problem := d_law_problem (P := l.prog) (w := w) (base := base) B e_law_next F12 (PySem.W.mg_of X G a12) bb12
  have e_law_setup := d_law_setup (P := l.prog) (w := w) (base := base) B e_law_next F13 (PySem.W.mg_of X G a13) bb13
  have e_law_kind := d_law_kind (P := l.prog) (w := w) (base := base) B CO e_check_problem e_check_setup F14 (PySem.W.mg_of X G a14) bb14
  exact (d_law B CO e_law_stream e_law_problem e_law_setup e_law_kind F15).imp (spT_of fun ns => law_ok CO ns)
end Den

open PySem PySem.W PyProof.Rows
set_option maxHeartbeats 0 in
theorem PySem.Challenge.cw_rowsahead_k00_problems_and_setups_holds : PySem.Challenge.rw_rowsahead_k00_problems_and_setups.Holds := by
  w_on; o_law; k_head; (case hw => w_witness2)
  k_fill
  refine L2.walk_of (l := PySem.Challenge.rw_rowsahead_k00_problems_and_setups) (n := 63) (k := 6) (x := "script") (CX := fun _ => L2.CX0) (sp := fun w => Den.spT _) rfl (by decide) rfl ⟨rfl, by decide, by decide⟩ (fun w h Y => PySem.W.kIn_of Y) ?F (fun _ H a ns hl _ hS => ⟨a, ns, rfl, hS, fun _ => rfl⟩) (fun _ _ _ _ _ h => h)
  case F =>
    intro w mg fa h KX G hmg
    refine' Den.all_mk KX G hmg ?a1 ?l1 ?c1 ?k1 ?a2 ?l2 ?c2 ?k2 ?a3 ?l3 ?c3 ?k3 ?a4 ?l4 ?c4 ?k4 ?a5 ?l5 ?c5 ?k5 ?a6 ?l6 ?c6 ?k6 ?a7 ?l7 ?c7 ?k7 ?a8 ?l8 ?c8 ?k8 ?a9 ?l9 ?c9 ?k9 ?a10 ?l10 ?c10 ?k10 ?a11 ?l11 ?c11 ?k11 ?a12 ?l12 ?c12 ?k12 ?a13 ?l13 ?c13 ?k13 ?a14 ?l14 ?c14 ?k14 ?a15 ?l15 ?c15 ?k15 ?z1 ?z2 ?z3 ?z4 ?z5 ?z6 ?z7 ?z8 ?z9 ?z10 ?z11 ?y1 ?y2 ?y3 ?y4 ?y5 ?y6 ?y7 ?y8 ?y9 ?y10 ?n1 ?x1 ?q1 ?b1 ?t1 ?i1 ?n2 ?x2 ?q2 ?b2 ?t2 ?i2 ?n3 ?x3 ?q3 ?b3 ?t3 ?i3 ?p21 ?p22 ?p24 ?p25 ?p26 ?p27 ?p28 ?p31 ?p32 ?p34 ?p35 ?p36 ?p37 ?p38 ?v1 ?v2 ?v3 ?w1 ?w2 ?w3 ?w4
    (case a1 => k_is); (case l1 => k_is); (case c1 => k_is); (case k1 => k_is); (case a2 => k_is); (case l2 => k_is); (case c2 => k_is); (case k2 => k_is); (case a3 => k_is); (case l3 => k_is); (case c3 => k_is); (case k3 => k_is); (case a4 => k_is); (case l4 => k_is); (case c4 => k_is); (case k4 => k_is); (case a5 => k_is); (case l5 => k_is); (case c5 => k_is); (case k5 => k_is); (case a6 => k_is); (case l6 => k_is); (case c6 => k_is); (case k6 => k_is); (case a7 => k_is); (case l7 => k_is); (case c7 => k_is); (case k7 => k_is); (case a8 => k_is); (case l8 => k_is); (case c8 => k_is); (case k8 => k_is); (case a9 => k_is); (case l9 => k_is); (case c9 => k_is); (case k9 => k_is); (case a10 => k_is); (case l10 => k_is); (case c10 => k_is); (case k10 => k_is); (case a11 => k_is); (case l11 => k_is); (case c11 => k_is); (case k11 => k_is); (case a12 => k_is); (case l12 => k_is); (case c12 => k_is); (case k12 => k_is); (case a13 => k_is); (case l13 => k_is); (case c13 => k_is); (case k13 => k_is); (case a14 => k_is); (case l14 => k_is); (case c14 => k_is); (case k14 => k_is); (case a15 => k_is); (case l15 => k_is); (case c15 => k_is); (case k15 => k_is); (case z1 => k_is); (case z2 => k_is); (case z3 => k_is); (case z4 => k_is); (case z5 => k_is); (case z6 => k_is); (case z7 => k_is); (case z8 => k_is); (case z9 => k_is); (case z10 => k_is); (case z11 => k_is); (case y1 => k_is); (case y2 => k_is); (case y3 => k_is); (case y4 => k_is); (case y5 => k_is); (case y6 => k_is); (case y7 => k_is); (case y8 => k_is); (case y9 => k_is); (case y10 => k_is); (case n1 => k_is); (case x1 => k_exc); (case q1 => k_is); (case b1 => k_is); (case t1 => k_is); (case i1 => k_is); (case n2 => k_is); (case x2 => k_exc); (case q2 => k_is); (case b2 => k_is); (case t2 => k_is); (case i2 => k_is); (case n3 => k_is); (case x3 => k_exc); (case q3 => k_is); (case b3 => k_is); (case t3 => k_is); (case i3 => k_is); (case p21 => k_is); (case p22 => k_is); (case p24 => k_is); (case p25 => k_is); (case p26 => k_is); (case p27 => k_is); (case p28 => k_is); (case p31 => k_is); (case p32 => k_is); (case p34 => k_is); (case p35 => k_is); (case p36 => k_is); (case p37 => k_is); (case p38 => k_is); (case v1 => first | rfl | k_is); (case v2 => first | rfl | k_is); (case v3 => first | rfl | k_is); (case w1 => first | rfl | k_is); (case w2 => first | rfl | k_is); (case w3 => first | rfl | k_is); (case w4 => first | rfl | k_is)

