import PyProof.Rows.All
import Wide.All
import OpenK.AllK
import Wide.FinOn
import HandS.ForMost
import HandS.Evl
import HandS.IsInst
import HandS.Wide
import HandS.Flow
import HandS.Conv
import HandS.TryOnly
import HandS.TupAny
import KE.GoesMore
import KE.KRevSl
import HandS.Style
import HandS.Walk
import HandS.Iter
import PyProof.StrOps2
import PySem.Challenge.RW_lastproof_k24_tokens_of_a_line
set_option Elab.async false
set_option linter.all false
set_option maxRecDepth 100000
set_option maxHeartbeats 4000000
namespace DL
open PySem PySem.Spec PyProof.Rows L2
open Evl (Ex)

/-- data, without the heap -/
inductive D where
  | none
  | bool (b : Bool)
  | int (i : Int)
  | str (s : Str)
  | list (xs : List D)
  | tuple (xs : List D)
  | dictK (ks : List Key) (vs : List D)
  | dictT (ks : List (List Key)) (vs : List D)
  | fn (j : Nat)

mutual
inductive R (K : PySem.W.Frag) (H : Hp) : V → D → Prop
  | none : R K H .non .none
  | bool (b : Bool) : R K H (.bl b) (.bool b)
  | int (i : Int) : R K H (.int i) (.int i)
  | str (x : Str) : R K H (.str x) (.str x)
  | list {a : Addr} {xs : List V} {ds : List D} : SqL K H a xs → RA K H xs ds → R K H (.ref a) (.list ds)
  | tuple {a : Addr} {xs : List V} {ds : List D} : SqT K H a xs → RA K H xs ds → R K H (.ref a) (.tuple ds)
  | dictK {a : Addr} {kvs : List (Key × V)} {ks : List Key} {ds : List D} : H a = some (.dK kvs) → kvs.map (·.1) = ks → RA K H (kvs.map (·.2)) ds → R K H (.ref a) (.dictK ks ds)
  | dictT {a : Addr} {kvs : List (List Key × V)} {ks : List (List Key)} {ds : List D} : H a = some (.dT kvs) → kvs.map (·.1) = ks → RA K H (kvs.map (·.2)) ds → R K H (.ref a) (.dictT ks ds)
inductive RA (K : PySem.W.Frag) (H : Hp) : List V → List D → Prop
  | nil : RA K H [] []
  | cons {v : V} {vs : List V} {d : D} {ds : List D} : R K H v d → RA K H vs ds → RA K H (v :: vs) (d :: ds)
end

section
variable {K : PySem.W.Frag} {H H' V V' : Hp}
mutual
theorem R.mono (e : Ex H H') : ∀ (d : D) (v : L2.V), R K H v d → R K H' v d
  | .none, _, h => by cases h; exact .none
  | .bool b, _, h => by cases h; exact .bool b
  | .int i, _, h => by cases h; exact .int i
  | .str s, _, h => by cases h; exact .str s
  | .list ds, _, h => by
    cases h with
    | list hs ha => exact .list (Evl.ex_l e hs) (RA.mono e ds _ ha)
  | .tuple ds, _, h => by
    cases h with
    | tuple hs ha => exact .tuple (Evl.ex_t e hs) (RA.mono e ds _ ha)
  | .dictK ks ds, _, h => by
    cases h with
    | dictK hs hk ha => exact .dictK (e _ _ hs) hk (RA.mono e ds _ ha)
  | .dictT ks ds, _, h => by
    cases h with
    | dictT hs hk ha => exact .dictT (e _ _ hs) hk (RA.mono e ds _ ha)
  | .fn j, _, h => by cases h
theorem RA.mono (e : Ex H H') : ∀ (ds : List D) (vs : List L2.V), RA K H vs ds → RA K H' vs ds
  | [], _, h => by cases h; exact .nil
  | d :: ds, _, h => by
    cases h with
    | cons h1 h2 => exact .cons (R.mono e d _ h1) (RA.mono e ds _ h2)
end
theorem RA.len : ∀ {ds : List D} {vs : List L2.V}, RA K H vs ds → vs.length = ds.length
  | [], _, h => by cases h; rfl
  | d :: ds, _, h => by
    cases h with
    | cons h1 h2 => rw [List.length_cons, List.length_cons, RA.len h2]
theorem RA.get : ∀ {ds : List D} {vs : List L2.V} {i : Nat} {d : D}, RA K H vs ds → ds[i]? = some d → ∃ v, vs[i]? = some v ∧ R K H v d
  | [], _, _, _, h, e => by simp at e
  | d :: ds, _, 0, d', h, e => by
    cases h with
    | cons h1 h2 =>
      have : d = d' := Option.some.inj e
      subst this
      exact ⟨_, rfl, h1⟩
  | d :: ds, _, i + 1, d', h, e => by
    cases h with
    | cons h1 h2 =>
      obtain ⟨v, hv, hr⟩ := RA.get (i := i) h2 e
      exact ⟨v, hv, hr⟩
theorem RA.getV : ∀ {ds : List D} {vs : List L2.V} {i : Nat} {v : L2.V}, RA K H vs ds → vs[i]? = some v → ∃ d, ds[i]? = some d ∧ R K H v d
  | [], _, _, _, h, e => by cases h; simp at e
  | d :: ds, _, 0, v', h, e => by
    cases h with
    | cons h1 h2 =>
      have := Option.some.inj e
      subst this
      exact ⟨_, rfl, h1⟩
  | d :: ds, _, i + 1, v', h, e => by
    cases h with
    | cons h1 h2 =>
      obtain ⟨v, hv, hr⟩ := RA.getV (i := i) h2 e
      exact ⟨v, hv, hr⟩
theorem RA.append : ∀ {ds es : List D} {vs us : List L2.V}, RA K H vs ds → RA K H us es → RA K H (vs ++ us) (ds ++ es)
  | [], _, _, _, h, k => by cases h; exact k
  | d :: ds, _, _, _, h, k => by
    cases h with
    | cons h1 h2 => exact .cons h1 (RA.append h2 k)
theorem RA.take (n : Nat) : ∀ {ds : List D} {vs : List L2.V}, RA K H vs ds → RA K H (vs.take n) (ds.take n) := by
  induction n with
  | zero => intro ds vs h; simp; exact .nil
  | succ n ih =>
    intro ds vs h
    cases ds with
    | nil => cases h; simp; exact .nil
    | cons d ds =>
      cases h with
      | cons h1 h2 =>
        simp only [List.take_succ_cons]
        exact .cons h1 (ih h2)
theorem RA.drop (n : Nat) : ∀ {ds : List D} {vs : List L2.V}, RA K H vs ds → RA K H (vs.drop n) (ds.drop n) := by
  induction n with
  | zero => intro ds vs h; exact h
  | succ n ih =>
    intro ds vs h
    cases ds with
    | nil => cases h; simp; exact .nil
    | cons d ds =>
      cases h with
      | cons h1 h2 =>
        simp only [List.drop_succ_cons]
        exact ih h2
theorem RA.set {v : L2.V} {d : D} (r : R K H v d) (n : Nat) : ∀ {ds : List D} {vs : List L2.V}, RA K H vs ds → RA K H (vs.set n v) (ds.set n d) := by
  induction n with
  | zero =>
    intro ds vs h
    cases h with
    | nil => exact .nil
    | cons h1 h2 => exact .cons r h2
  | succ n ih =>
    intro ds vs h
    cases h with
    | nil => exact .nil
    | cons h1 h2 => exact .cons h1 (ih h2)
theorem RA.rev : ∀ {ds : List D} {vs : List L2.V}, RA K H vs ds → RA K H vs.reverse ds.reverse
  | [], _, h => by cases h; exact .nil
  | d :: ds, _, h => by
    cases h with
    | cons h1 h2 =>
      rw [List.reverse_cons, List.reverse_cons]
      exact RA.append (RA.rev h2) (.cons h1 .nil)
theorem RA.ints : ∀ (ns : List Int), RA K H (ns.map L2.V.int) (ns.map D.int)
  | [] => .nil
  | n :: ns => .cons (.int n) (RA.ints ns)
theorem RA.ofInts : ∀ {ns : List Int} {vs : List L2.V}, RA K H vs (ns.map D.int) → vs = ns.map L2.V.int
  | [], _, h => by cases h; rfl
  | n :: ns, _, h => by
    cases h with
    | cons h1 h2 =>
      cases h1
      rw [RA.ofInts h2]
      rfl
end

/-! ### slots -/
/-- own p d: a container that nobody else sees, with the content d; p: a parameter -/
inductive Sl where
  | no
  | val (d : D)
  | own (p : Bool) (d : D)

/-- the content of an owned object at l -/
def OwnC (K : PySem.W.Frag) (V H : Hp) (l : Addr) : D → Prop
  | .list ds => ∃ xs, H l = some (.lst xs) ∧ RA K V xs ds
  | .dictK ks ds => ∃ kvs, H l = some (.dK kvs) ∧ kvs.map (·.1) = ks ∧ RA K V (kvs.map (·.2)) ds
  | .dictT ks ds => ∃ kvs, H l = some (.dT kvs) ∧ kvs.map (·.1) = ks ∧ RA K V (kvs.map (·.2)) ds
  | _ => False

def SlOk (K : PySem.W.Frag) (V H : Hp) : Option L2.V → Sl → Prop
  | _, .no => True
  | some v, .val d => R K V v d
  | some v, .own _ d => ∃ l, v = .ref l ∧ V l = none ∧ OwnC K V H l d
  | none, .val _ => False
  | none, .own _ _ => False

abbrev Nv := List Sl
def Own (env : Nv) (σ : L2.St) (l : Addr) : Prop := ∃ (i : Nat) (p : Bool) (d : D), env[i]? = some (Sl.own p d) ∧ σ[i]? = some (some (.ref l))
def OwnL (env : Nv) (σ : L2.St) (l : Addr) : Prop := ∃ (i : Nat) (d : D), env[i]? = some (Sl.own false d) ∧ σ[i]? = some (some (.ref l))
theorem OwnL.own {env : Nv} {σ : L2.St} {l : Addr} (h : OwnL env σ l) : Own env σ l := let ⟨i, d, h⟩ := h; ⟨i, false, d, h⟩

structure NvOk (K : PySem.W.Frag) (V H : Hp) (σ : L2.St) (env : Nv) : Prop where
  len : σ.length = env.length
  sub : Ex V H
  slot : ∀ (i : Nat) (o : Option L2.V) (s : Sl), σ[i]? = some o → env[i]? = some s → SlOk K V H o s
  one : ∀ (i j : Nat) (p q : Bool) (d e : D) (l : Addr), env[i]? = some (.own p d) → env[j]? = some (.own q e) → σ[i]? = some (some (.ref l)) → σ[j]? = some (some (.ref l)) → i = j

theorem OwnC.there {K : PySem.W.Frag} {V H : Hp} {l : Addr} {d : D} (h : OwnC K V H l d) : ∃ o, H l = some o := by
  cases d with
  | list ds => obtain ⟨xs, h, _⟩ := h; exact ⟨_, h⟩
  | dictK ks ds => obtain ⟨xs, h, _⟩ := h; exact ⟨_, h⟩
  | dictT ks ds => obtain ⟨xs, h, _⟩ := h; exact ⟨_, h⟩
  | _ => exact h.elim
theorem OwnC.mono {K : PySem.W.Frag} {V H V' H' : Hp} {l : Addr} {d : D} (h : OwnC K V H l d) (e : Ex V V') (k : H' l = H l) : OwnC K V' H' l d := by
  cases d with
  | list ds => obtain ⟨xs, h, r⟩ := h; exact ⟨xs, k.trans h, RA.mono e _ _ r⟩
  | dictK ks ds => obtain ⟨xs, h, r1, r⟩ := h; exact ⟨xs, k.trans h, r1, RA.mono e _ _ r⟩
  | dictT ks ds => obtain ⟨xs, h, r1, r⟩ := h; exact ⟨xs, k.trans h, r1, RA.mono e _ _ r⟩
  | _ => exact h.elim
/-- an owned object, seen in the heap -/
theorem OwnC.seen {K : PySem.W.Frag} {V H : Hp} {l : Addr} {d : D} (h : OwnC K V H l d) (e : Ex V H) : R K H (.ref l) d := by
  cases d with
  | list ds => obtain ⟨xs, h, r⟩ := h; exact .list (Evl.sq_of h) (RA.mono e _ _ r)
  | dictK ks ds => obtain ⟨xs, h, r1, r⟩ := h; exact .dictK h r1 (RA.mono e _ _ r)
  | dictT ks ds => obtain ⟨xs, h, r1, r⟩ := h; exact .dictT h r1 (RA.mono e _ _ r)
  | _ => exact h.elim
/-- .. made visible -/
theorem OwnC.publish {K : PySem.W.Frag} {V H : Hp} {l : Addr} {d : D} (h : OwnC K V H l d) (hv : V l = none) : ∃ o, H l = some o ∧ R K (upd V l o) (.ref l) d := by
  have e : ∀ o, Ex V (upd V l o) := fun o => Evl.Ex.new hv
  cases d with
  | list ds => obtain ⟨xs, h, r⟩ := h; exact ⟨_, h, .list (Evl.sq_of upd_same) (RA.mono (e _) _ _ r)⟩
  | dictK ks ds => obtain ⟨xs, h, r1, r⟩ := h; exact ⟨_, h, .dictK upd_same r1 (RA.mono (e _) _ _ r)⟩
  | dictT ks ds => obtain ⟨xs, h, r1, r⟩ := h; exact ⟨_, h, .dictT upd_same r1 (RA.mono (e _) _ _ r)⟩
  | _ => exact h.elim

/-- from one moment of a def's run to a later one -/
structure Adv (K : PySem.W.Frag) (σ : L2.St) (env : Nv) (σ' : L2.St) (env' : Nv) (V H V' H' : Hp) : Prop where
  ok : NvOk K V' H' σ' env'
  ex : Ex V V'
  fr : ∀ a, V' a ≠ none → V a ≠ none ∨ H a = none ∨ OwnL env σ a
  keep : ∀ a o, H a = some o → ¬ Own env σ a → H' a = some o
  dom : ∀ a, H a ≠ none → H' a ≠ none
  own : ∀ a, Own env' σ' a → Own env σ a ∨ H a = none
  ownL : ∀ a, OwnL env' σ' a → OwnL env σ a ∨ H a = none
  par : ∀ (i : Nat) (d : D), env[i]? = some (.own true d) → (∃ d', env'[i]? = some (.own true d')) ∧ σ'[i]? = σ[i]?

section
variable {K : PySem.W.Frag} {σ σ1 σ2 : L2.St} {env env1 env2 : Nv} {V H V1 H1 V2 H2 : Hp}
theorem Adv.refl (h : NvOk K V H σ env) : Adv K σ env σ env V H V H :=
  ⟨h, Evl.Ex.refl V, fun _ h => .inl h, fun _ _ h _ => h, fun _ h => h, fun _ h => .inl h, fun _ h => .inl h, fun _ d h => ⟨⟨d, h⟩, rfl⟩⟩
theorem Adv.trans (a : Adv K σ env σ1 env1 V H V1 H1) (b : Adv K σ1 env1 σ2 env2 V1 H1 V2 H2) : Adv K σ env σ2 env2 V H V2 H2 := by
  have nn : ∀ x, H1 x = none → H x = none := fun x h => by
    cases q : H x with
    | none => rfl
    | some o => exact absurd h (a.dom x (by rw [q]; exact fun z => by cases z))
  refine ⟨b.ok, a.ex.trans b.ex, fun x h => ?_, fun x o h n => ?_, fun x h => b.dom x (a.dom x h), fun x h => ?_, fun x h => ?_, fun i d h => ?_⟩
  · rcases b.fr x h with h | h | h
    · exact a.fr x h
    · exact .inr (.inl (nn x h))
    · rcases a.ownL x h with h | h
      · exact .inr (.inr h)
      · exact .inr (.inl h)
  · refine b.keep x o (a.keep x o h n) fun q => ?_
    rcases a.own x q with k | k
    · exact n k
    · rw [h] at k; cases k
  · rcases b.own x h with h | h
    · exact a.own x h
    · exact .inr (nn x h)
  · rcases b.ownL x h with h | h
    · exact a.ownL x h
    · exact .inr (nn x h)
  · obtain ⟨⟨d1, h1⟩, e1⟩ := a.par i d h
    obtain ⟨h2, e2⟩ := b.par i d1 h1
    exact ⟨h2, e2.trans e1⟩

theorem NvOk.ownC (ok : NvOk K V H σ env) {i : Nat} {p : Bool} {d : D} (h : env[i]? = some (.own p d)) : ∃ l, σ[i]? = some (some (.ref l)) ∧ V l = none ∧ OwnC K V H l d := by
  have hl : i < σ.length := by rw [ok.len]; exact (List.getElem?_eq_some_iff.mp h).1
  have e : σ[i]? = some σ[i] := List.getElem?_eq_getElem hl
  have q := ok.slot i _ _ e h
  cases ho : σ[i] with
  | none => rw [ho] at q; exact q.elim
  | some v =>
    rw [ho] at q e
    obtain ⟨l, rfl, h1, h2⟩ := q
    exact ⟨l, e, h1, h2⟩
theorem NvOk.val (ok : NvOk K V H σ env) {i : Nat} {d : D} (h : env[i]? = some (.val d)) : ∃ v, σ[i]? = some (some v) ∧ R K V v d := by
  have hl : i < σ.length := by rw [ok.len]; exact (List.getElem?_eq_some_iff.mp h).1
  have e : σ[i]? = some σ[i] := List.getElem?_eq_getElem hl
  have q := ok.slot i _ _ e h
  cases ho : σ[i] with
  | none => rw [ho] at q; exact q.elim
  | some v => rw [ho] at q e; exact ⟨v, e, q⟩
theorem NvOk.ownH (ok : NvOk K V H σ env) {l : Addr} (h : Own env σ l) : V l = none ∧ ∃ o, H l = some o := by
  obtain ⟨i, p, d, h1, h2⟩ := h
  obtain ⟨l', e, hv, hc⟩ := ok.ownC h1
  rw [h2] at e
  cases e
  exact ⟨hv, hc.there⟩
theorem NvOk.notOwn (ok : NvOk K V H σ env) {l : Addr} (h : H l = none) : ¬ Own env σ l := fun q => by
  obtain ⟨_, o, ho⟩ := ok.ownH q
  rw [h] at ho
  cases ho

/-- what only lays new things -/
structure Al (V H V' H' : Hp) : Prop where
  ex : Ex V V'
  sub : Ex V' H'
  keep : Ex H H'
  fr : ∀ a, V' a ≠ none → V a ≠ none ∨ H a = none
theorem Al.refl (h : Ex V H) : Al V H V H := ⟨Evl.Ex.refl V, h, Evl.Ex.refl H, fun _ h => .inl h⟩
/-- .. visible -/
theorem Al.new {p : Addr} {o : HO} (h : Ex V H) (hp : H p = none) : Al V H (upd V p o) (upd H p o) := by
  have hv : V p = none := Evl.fresh_back h hp
  refine ⟨Evl.Ex.new hv, fun a u e => ?_, Evl.Ex.new hp, fun a e => ?_⟩
  · by_cases q : a = p
    · subst q; rw [upd_same] at e ⊢; exact e
    · rw [upd_ne q] at e ⊢; exact h a u e
  · by_cases q : a = p
    · subst q; exact .inr hp
    · rw [upd_ne q] at e; exact .inl e
/-- .. hidden -/
theorem Al.hid {p : Addr} {o : HO} (h : Ex V H) (hp : H p = none) : Al V H V (upd H p o) :=
  ⟨Evl.Ex.refl V, h.trans (Evl.Ex.new hp), Evl.Ex.new hp, fun _ h => .inl h⟩
theorem Al.trans (a : Al V H V1 H1) (b : Al V1 H1 V2 H2) : Al V H V2 H2 :=
  ⟨a.ex.trans b.ex, b.sub, a.keep.trans b.keep, fun x h => by
    rcases b.fr x h with h | h
    · exact a.fr x h
    · exact .inr (Evl.fresh_back a.keep h)⟩
theorem NvOk.al (ok : NvOk K V H σ env) (a : Al V H V1 H1) : NvOk K V1 H1 σ env := by
  refine ⟨ok.len, a.sub, fun i o s h1 h2 => ?_, ok.one⟩
  have q := ok.slot i o s h1 h2
  cases s with
  | no => cases o <;> trivial
  | val d =>
    cases o with
    | none => exact q
    | some v => exact R.mono a.ex _ _ q
  | own p d =>
    cases o with
    | none => exact q
    | some v =>
      obtain ⟨l, rfl, h3, h4⟩ := q
      obtain ⟨u, hu⟩ := h4.there
      refine ⟨l, rfl, ?_, h4.mono a.ex ((a.keep l u hu).trans hu.symm)⟩
      cases z : V1 l with
      | none => rfl
      | some u2 =>
        rcases a.fr l (by rw [z]; exact fun z => by cases z) with k | k
        · exact absurd h3 k
        · rw [hu] at k; cases k
theorem Al.adv (a : Al V H V1 H1) (ok : NvOk K V H σ env) : Adv K σ env σ env V H V1 H1 :=
  ⟨ok.al a, a.ex, fun x h => (a.fr x h).elim .inl fun k => .inr (.inl k), fun x o h _ => a.keep x o h, (fun x h => by
    cases q : H x with
    | none => exact absurd q h
    | some o => rw [a.keep x o q]; exact fun z => by cases z), fun _ h => .inl h, fun _ h => .inl h, fun _ d h => ⟨⟨d, h⟩, rfl⟩⟩
end

/-! ### results -/
inductive Res where
  | val (d : D)
  | new (d : D)
  | own (i : Nat)

/-- v is the result of what began at σ0, env0, H0 -/
def ROk (K : PySem.W.Frag) (σ0 : L2.St) (env0 : Nv) (H0 V H : Hp) (σ : L2.St) (env : Nv) (v : L2.V) : Res → Prop
  | .val d => R K V v d
  | .new d => ∃ l, v = .ref l ∧ (H0 l = none ∨ OwnL env0 σ0 l) ∧ V l = none ∧ ¬ Own env σ l ∧ OwnC K V H l d
  | .own i => σ[i]? = some (some v) ∧ ∃ p d, env[i]? = some (.own p d)

/-- te, from env, gives the result and leaves env' -/
def Snd (K : PySem.W.Frag) (te : TE) (env : Nv) (r : Res) (env' : Nv) : Prop :=
  ∀ (σ : L2.St) (V H : Hp), NvOk K V H σ env → ∀ Q : VK, (∀ v V' H', Adv K σ env σ env' V H V' H' → ROk K σ env H V' H' σ env' v r → Q v H') → te σ H Q
def pub : Res → Res
  | .new d => .val d
  | r => r
section
variable {K : PySem.W.Frag} {σ σ1 σ2 σ0 : L2.St} {env env1 env2 env0 : Nv} {V H V1 H1 V2 H2 : Hp} {te : TE}
/-- a hidden thing is made visible -/
theorem Adv.show {l : Addr} {d : D} (a : Adv K σ env σ1 env1 V H V1 H1) (h0 : H l = none ∨ OwnL env σ l) (hv : V1 l = none) (hn : ¬ Own env1 σ1 l) (hc : OwnC K V1 H1 l d) :
    ∃ V2, Adv K σ env σ1 env1 V H V2 H1 ∧ R K V2 (.ref l) d := by
  obtain ⟨o, ho, r⟩ := hc.publish hv
  have hx : Ex V1 (upd V1 l o) := Evl.Ex.new hv
  refine ⟨upd V1 l o, ⟨⟨a.ok.len, fun b u e => ?_, fun i w s h1 h2 => ?_, a.ok.one⟩, a.ex.trans hx, fun b h => ?_, a.keep, a.dom, a.own, a.ownL, a.par⟩, r⟩
  · by_cases q : b = l
    · subst q; rw [upd_same] at e; cases e; exact ho
    · rw [upd_ne q] at e; exact a.ok.sub b u e
  · have q := a.ok.slot i w s h1 h2
    cases s with
    | no => cases w <;> trivial
    | val e =>
      cases w with
      | none => exact q
      | some v => exact R.mono hx _ _ q
    | own p e =>
      cases w with
      | none => exact q
      | some v =>
        obtain ⟨b, rfl, h3, h4⟩ := q
        have nb : b ≠ l := fun z => by
          subst z
          exact hn ⟨i, p, e, h2, h1⟩
        exact ⟨b, rfl, by rw [upd_ne nb]; exact h3, h4.mono hx rfl⟩
  · by_cases q : b = l
    · subst q
      exact h0.elim (fun z => .inr (.inl z)) fun z => .inr (.inr z)
    · rw [upd_ne q] at h; exact a.fr b h
theorem Snd.pub {r : Res} (h : Snd K te env r env1) : Snd K te env (DL.pub r) env1 := by
  cases r with
  | val d => exact h
  | own i => exact h
  | new d =>
    intro σ V H ok Q q
    refine h σ V H ok Q fun v V' H' a ⟨l, e, h0, hv, hn, hc⟩ => ?_
    obtain ⟨V2, a2, r2⟩ := a.show h0 hv hn hc
    subst e
    exact q _ V2 H' a2 r2
end
end DL

namespace DL
open PySem PySem.Spec PyProof.Rows L2
open Evl (Ex)

abbrev EvF := Nv → Option (Res × Nv)
abbrev EvA := Nv → Option (List Res × Nv)
abbrev EvT := Nv → Option (Bool × Nv)
def look (env : Nv) : Res → Option D
  | .val d => some d
  | .new d => some d
  | .own i => match env[i]? with
    | some (.own _ d) => some d
    | _ => none
def looks (env : Nv) : List Res → Option (List D)
  | [] => some []
  | r :: rs => (look env r).bind fun d => (looks env rs).bind fun ds => some (d :: ds)
/-- visible results -/
def vis : Res → Option D
  | .val d => some d
  | .new d => some d
  | .own _ => none
def viss : List Res → Option (List D)
  | [] => some []
  | r :: rs => (vis r).bind fun d => (viss rs).bind fun ds => some (d :: ds)
def opd (f : EvF) : EvF := fun env => (f env).bind fun p => some (pub p.1, p.2)
def argN : EvA := fun env => some ([], env)
def argC (f : EvF) (g : EvA) : EvA := fun env => (opd f env).bind fun p => (g p.2).bind fun q => some (p.1 :: q.1, q.2)

def Sd (K : PySem.W.Frag) (t : TE) (f : EvF) : Prop := ∀ env r env', f env = some (r, env') → Snd K t env r env'
def PD (X : Cx) (e : Expr) (f : EvF) : Prop := ∃ t, PE X e t ∧ Sd X.K t f

/-- an operand -/
def Held (K : PySem.W.Frag) (V : Hp) (σ : L2.St) (v : L2.V) : Res → Prop
  | .val d => R K V v d
  | .own i => σ[i]? = some (some v)
  | .new _ => False
inductive HeldA (K : PySem.W.Frag) (V : Hp) (σ : L2.St) : List L2.V → List Res → Prop
  | nil : HeldA K V σ [] []
  | cons {v r vs rs} : Held K V σ v r → HeldA K V σ vs rs → HeldA K V σ (v :: vs) (r :: rs)
def OpOk (K : PySem.W.Frag) (V H : Hp) (v : L2.V) (d : D) : Prop := R K V v d ∨ ∃ l, v = .ref l ∧ V l = none ∧ OwnC K V H l d
inductive OpA (K : PySem.W.Frag) (V H : Hp) : List L2.V → List D → Prop
  | nil : OpA K V H [] []
  | cons {v d vs ds} : OpOk K V H v d → OpA K V H vs ds → OpA K V H (v :: vs) (d :: ds)
section
variable {K : PySem.W.Frag} {σ : L2.St} {env env1 env2 : Nv} {V H V1 H1 V2 H2 : Hp} {v : L2.V} {te ta tb : TE}
theorem Held.mono {r : Res} (h : Held K V σ v r) (e : Ex V V1) : Held K V1 σ v r := by
  cases r with
  | val d => exact R.mono e _ _ h
  | own i => exact h
  | new d => exact h
theorem HeldA.mono {vs : List L2.V} {rs : List Res} (h : HeldA K V σ vs rs) (e : Ex V V1) : HeldA K V1 σ vs rs := by
  induction h with
  | nil => exact .nil
  | cons h _ ih => exact .cons (h.mono e) ih
theorem Held.look {r : Res} {d : D} (h : Held K V σ v r) (ok : NvOk K V H σ env) (e : look env r = some d) : OpOk K V H v d := by
  cases r with
  | val d' =>
    cases e
    exact .inl h
  | new d' => exact h.elim
  | own i =>
    have e' : (match env[i]? with
      | some (.own _ d) => some d
      | _ => none) = some d := e
    cases q : env[i]? with
    | none => rw [q] at e'; cases e'
    | some s =>
      rw [q] at e'
      cases s with
      | no => cases e'
      | val _ => cases e'
      | own p d' =>
        cases e'
        obtain ⟨l, h1, h2, h3⟩ := ok.ownC q
        have hv : σ[i]? = some (some v) := h
        rw [h1] at hv
        cases hv
        exact .inr ⟨l, rfl, h2, h3⟩
theorem HeldA.look {vs : List L2.V} {rs : List Res} (h : HeldA K V σ vs rs) (ok : NvOk K V H σ env) : ∀ {ds : List D}, looks env rs = some ds → OpA K V H vs ds := by
  induction h with
  | nil => intro ds e; cases e; exact .nil
  | cons h _ ih =>
    intro ds e
    simp only [looks, Option.bind_eq_some_iff] at e
    obtain ⟨d, e1, ds', e2, e3⟩ := e
    cases e3
    exact .cons (h.look ok e1) (ih e2)
theorem HeldA.vis {vs : List L2.V} {rs : List Res} (h : HeldA K V σ vs rs) : ∀ {ds : List D}, viss rs = some ds → RA K V vs ds := by
  induction h with
  | nil => intro ds e; cases e; exact .nil
  | @cons v r vs rs h _ ih =>
    intro ds e
    simp only [viss, Option.bind_eq_some_iff] at e
    obtain ⟨d, e1, ds', e2, e3⟩ := e
    cases e3
    refine .cons ?_ (ih e2)
    cases r with
    | val d' => cases e1; exact h
    | new d' => exact h.elim
    | own i => cases e1
theorem OpOk.seen {d : D} (h : OpOk K V H v d) (e : Ex V H) : R K H v d := by
  rcases h with h | ⟨l, rfl, _, h⟩
  · exact R.mono e _ _ h
  · exact h.seen e
theorem OpA.seen {vs : List L2.V} {ds : List D} (h : OpA K V H vs ds) (e : Ex V H) : RA K H vs ds := by
  induction h with
  | nil => exact .nil
  | cons h _ ih => exact .cons (h.seen e) ih
theorem ROk.held {r : Res} {σ0 : L2.St} {env0 : Nv} {H0 : Hp} (h : ROk K σ0 env0 H0 V H σ env v (pub r)) : Held K V σ v (pub r) := by
  cases r with
  | val d => exact h
  | new d => exact h
  | own i => exact h.1
theorem opd_snd {f : EvF} {r : Res} (h : Sd K te f) (e : opd f env = some (r, env1)) (ok : NvOk K V H σ env) {Q : VK} (q : ∀ v V' H', Adv K σ env σ env1 V H V' H' → Held K V' σ v r → Q v H') : te σ H Q := by
  simp only [opd, Option.bind_eq_some_iff] at e
  obtain ⟨⟨r0, e0⟩, e1, e2⟩ := e
  cases e2
  exact (h env r0 _ e1).pub σ V H ok Q fun v V' H' a h => q v V' H' a h.held

/-- what an operation gives: H the heap ahead -/
def RR (K : PySem.W.Frag) (H V' H' : Hp) (v : L2.V) : Res → Prop
  | .val d => R K V' v d
  | .new d => ∃ l, v = .ref l ∧ H l = none ∧ V' l = none ∧ OwnC K V' H' l d
  | .own _ => False
theorem RR.rok {r : Res} (a : Adv K σ env σ env1 V H V1 H1) (b : Al V1 H1 V2 H2) (h : RR K H1 V2 H2 v r) : ROk K σ env H V2 H2 σ env1 v r := by
  cases r with
  | val d => exact h
  | own i => exact h.elim
  | new d =>
    obtain ⟨l, e, h1, h2, h3⟩ := h
    refine ⟨l, e, .inl ?_, h2, a.ok.notOwn h1, h3⟩
    cases q : H l with
    | none => rfl
    | some o => exact absurd h1 (a.dom l (by rw [q]; exact fun z => by cases z))

def BinOk (K : PySem.W.Frag) (r : R2) (g : D → D → Option Res) : Prop :=
  ∀ (V H : Hp) (x y : L2.V) (d e : D) (res : Res), Ex V H → OpOk K V H x d → OpOk K V H y e → g d e = some res → ∀ Q : VK, (∀ v V' H', Al V H V' H' → RR K H V' H' v res → Q v H') → r x y H Q
def UnOk (K : PySem.W.Frag) (r : L2.V → Hp → VK → Prop) (g : D → Option Res) : Prop :=
  ∀ (V H : Hp) (x : L2.V) (d : D) (res : Res), Ex V H → OpOk K V H x d → g d = some res → ∀ Q : VK, (∀ v V' H', Al V H V' H' → RR K H V' H' v res → Q v H') → r x H Q
def CallOk (K : PySem.W.Frag) (r : List L2.V → Hp → VK → Prop) (g : List D → Option Res) : Prop :=
  ∀ (V H : Hp) (vs : List L2.V) (ds : List D) (res : Res), Ex V H → OpA K V H vs ds → g ds = some res → ∀ Q : VK, (∀ v V' H', Al V H V' H' → RR K H V' H' v res → Q v H') → r vs H Q

def iBin (g : D → D → Option Res) (fa fb : EvF) : EvF := fun env => (opd fa env).bind fun p => (opd fb p.2).bind fun q =>
  (look q.2 p.1).bind fun d => (look q.2 q.1).bind fun e => (g d e).bind fun r => some (r, q.2)
theorem sd_bin {r : R2} {g : D → D → Option Res} {fa fb : EvF} (hB : BinOk K r g) (ha : Sd K ta fa) (hb : Sd K tb fb) : Sd K (tOp r ta tb) (iBin g fa fb) := by
  intro env res env' e σ V H ok Q q
  simp only [iBin, Option.bind_eq_some_iff] at e
  obtain ⟨⟨ra, e1⟩, h1, ⟨rb, e2⟩, h2, d, h3, d', h4, r', h5, h6⟩ := e
  cases h6
  refine opd_snd ha h1 ok fun x V1 H1 a1 k1 => ?_
  refine opd_snd hb h2 a1.ok fun y V2 H2 a2 k2 => ?_
  have a := a1.trans a2
  exact hB V2 H2 x y d d' res a.ok.sub ((k1.mono a2.ex).look a.ok h3) (k2.look a.ok h4) h5 Q fun v V' H' b hr => q v V' H' (a.trans (b.adv a.ok)) (hr.rok a b)
def iUn (g : D → Option Res) (fa : EvF) : EvF := fun env => (opd fa env).bind fun p => (look p.2 p.1).bind fun d => (g d).bind fun r => some (r, p.2)
theorem sd_un {r : L2.V → Hp → VK → Prop} {g : D → Option Res} {fa : EvF} (hB : UnOk K r g) (ha : Sd K ta fa) : Sd K (tUn r ta) (iUn g fa) := by
  intro env res env' e σ V H ok Q q
  simp only [iUn, Option.bind_eq_some_iff] at e
  obtain ⟨⟨ra, e1⟩, h1, d, h3, r', h5, h6⟩ := e
  cases h6
  refine opd_snd ha h1 ok fun x V1 H1 a k1 => ?_
  exact hB V1 H1 x d res a.ok.sub (k1.look a.ok h3) h5 Q fun v V' H' b hr => q v V' H' (a.trans (b.adv a.ok)) (hr.rok a b)

/-! ### arguments -/
def SdA (K : PySem.W.Frag) (t : TA) (f : EvA) : Prop := ∀ env rs env', f env = some (rs, env') → ∀ (σ : L2.St) (V H : Hp), NvOk K V H σ env →
  ∀ Q : List L2.V → Hp → Prop, (∀ vs V' H', Adv K σ env σ env' V H V' H' → HeldA K V' σ vs rs → Q vs H') → t σ H Q
theorem sda_nil : SdA K tNil argN := by
  intro env rs env' e σ V H ok Q q
  cases e
  exact q [] V H (Adv.refl ok) .nil
theorem sda_cons {t : TA} {f : EvF} {g : EvA} (ha : Sd K te f) (hr : SdA K t g) : SdA K (tCons te t) (argC f g) := by
  intro env rs env' e σ V H ok Q q
  simp only [argC, Option.bind_eq_some_iff] at e
  obtain ⟨⟨ra, e1⟩, h1, ⟨rb, e2⟩, h2, h6⟩ := e
  cases h6
  refine opd_snd ha h1 ok fun x V1 H1 a1 k1 => ?_
  refine hr _ _ _ h2 σ V1 H1 a1.ok _ fun vs V2 H2 a2 k2 => ?_
  exact q _ V2 H2 (a1.trans a2) (.cons (k1.mono a2.ex) k2)
/-- a call by values -/
def iCB (g : List D → Option Res) (fs : EvA) : EvF := fun env => (fs env).bind fun p => (looks p.2 p.1).bind fun ds => (g ds).bind fun r => some (r, p.2)
theorem sd_cb {r : List L2.V → Hp → VK → Prop} {g : List D → Option Res} {t : TA} {fs : EvA} (hB : CallOk K r g) (ha : SdA K t fs) : Sd K (tCB r t) (iCB g fs) := by
  intro env res env' e σ V H ok Q q
  simp only [iCB, Option.bind_eq_some_iff] at e
  obtain ⟨⟨ra, e1⟩, h1, ds, h3, r', h5, h6⟩ := e
  cases h6
  refine ha _ _ _ h1 σ V H ok _ fun vs V1 H1 a k1 => ?_
  exact hB V1 H1 vs ds res a.ok.sub (k1.look a.ok h3) h5 Q fun v V' H' b hr => q v V' H' (a.trans (b.adv a.ok)) (hr.rok a b)
/-- tuples, lists -/
def iTup (fs : EvA) : EvF := fun env => (fs env).bind fun p => (viss p.1).bind fun ds => if ds.length ≤ 1000 then some (.val (.tuple ds), p.2) else none
def iLst (fs : EvA) : EvF := fun env => (fs env).bind fun p => (viss p.1).bind fun ds => if ds.length ≤ 1000 then some (.new (.list ds), p.2) else none
theorem sz1000 {n : Nat} (h : n ≤ 1000) : n ≤ sizeLine := Nat.le_of_lt (small1000 h)
theorem sd_tup {t : TA} {fs : EvA} (ha : SdA K t fs) : Sd K (tTup t) (iTup fs) := by
  intro env res env' e σ V H ok Q q
  simp only [iTup, Option.bind_eq_some_iff] at e
  obtain ⟨⟨ra, e1⟩, h1, ds, h3, h6⟩ := e
  split at h6
  · rename_i hz
    cases h6
    refine ha _ _ _ h1 σ V H ok _ fun vs V1 H1 a k1 => ?_
    have r := k1.vis h3
    refine ⟨sz1000 (by rw [r.len]; exact hz), fun p hp => ?_⟩
    have b : Al V1 H1 (upd V1 p (.tup vs)) (upd H1 p (.tup vs)) := Al.new a.ok.sub hp
    exact q _ _ _ (a.trans (b.adv a.ok)) (.tuple (Evl.st_of upd_same) (RA.mono b.ex _ _ r))
  · cases h6
theorem sd_lst {t : TA} {fs : EvA} (ha : SdA K t fs) : Sd K (tLst t) (iLst fs) := by
  intro env res env' e σ V H ok Q q
  simp only [iLst, Option.bind_eq_some_iff] at e
  obtain ⟨⟨ra, e1⟩, h1, ds, h3, h6⟩ := e
  split at h6
  · rename_i hz
    cases h6
    refine ha _ _ _ h1 σ V H ok _ fun vs V1 H1 a k1 => ?_
    have r := k1.vis h3
    refine ⟨sz1000 (by rw [r.len]; exact hz), fun p hp => ?_⟩
    have b : Al V1 H1 V1 (upd H1 p (.lst vs)) := Al.hid a.ok.sub hp
    refine q _ _ _ (a.trans (b.adv a.ok)) (RR.rok (r := .new (.list ds)) a b ⟨p, rfl, hp, Evl.fresh_back a.ok.sub hp, vs, upd_same, r⟩)
  · cases h6

/-! ### names, constants -/
def iVar (i : Nat) : EvF := fun env => match env[i]? with
  | some (.val d) => some (.val d, env)
  | some (.own _ _) => some (.own i, env)
  | _ => none
theorem sd_var (i : Nat) : Sd K (tVar i) (iVar i) := by
  intro env res env' e σ V H ok Q q
  unfold iVar at e
  split at e
  · rename_i d h
    cases e
    obtain ⟨v, h1, h2⟩ := ok.val h
    exact ⟨v, h1, q v V H (Adv.refl ok) h2⟩
  · rename_i p d h
    cases e
    obtain ⟨l, h1, h2, h3⟩ := ok.ownC h
    exact ⟨_, h1, q _ V H (Adv.refl ok) ⟨h1, p, d, h⟩⟩
  · cases e
def iCon (d : D) : EvF := fun env => some (.val d, env)
theorem sd_con {v : L2.V} {d : D} (h : R K (fun _ => none) v d) : Sd K (tC v) (iCon d) := by
  intro env res env' e σ V H ok Q q
  cases e
  exact q v V H (Adv.refl ok) (R.mono (fun a o z => by cases z) _ _ h)

/-! ### tests -/
def SdT (K : PySem.W.Frag) (t : TT) (f : EvT) : Prop := ∀ env b env', f env = some (b, env') → ∀ (σ : L2.St) (V H : Hp), NvOk K V H σ env →
  ∀ Q : Bool → Hp → Prop, (∀ V' H', Adv K σ env σ env' V H V' H' → Q b H') → t σ H Q
def isB : Res → Option Bool
  | .val (.bool b) => some b
  | _ => none
def iTst (f : EvF) : EvT := fun env => (f env).bind fun p => (isB p.1).bind fun b => some (b, p.2)
theorem R.isBool {b : Bool} (h : R K V v (.bool b)) : v = .bl b := by cases h; rfl
theorem isB_val {r : Res} {b : Bool} (h : isB r = some b) : r = .val (.bool b) := by
  cases r with
  | val d => cases d <;> first | (cases h; rfl) | cases h
  | _ => cases h
theorem sdt_test {f : EvF} (ha : Sd K te f) : SdT K (tTest te) (iTst f) := by
  intro env b env' e σ V H ok Q q
  simp only [iTst, Option.bind_eq_some_iff] at e
  obtain ⟨⟨r, e1⟩, h1, b', h2, h3⟩ := e
  cases h3
  have hr : r = _ := isB_val h2
  subst hr
  exact ha _ _ _ h1 σ V H ok _ fun v V' H' a k0 => ⟨b, R.isBool k0, q V' H' a⟩
def truD : D → Option Bool
  | .none => some false
  | .bool b => some b
  | .int i => some (i != 0)
  | .str s => if s.length ≤ 100000 then some ((s.length : Int) != 0) else none
  | .list ds => some (!ds.isEmpty)
  | .tuple ds => some (!ds.isEmpty)
  | .dictK ks _ => some (!ks.isEmpty)
  | _ => none
theorem RA.isEmpty {vs : List L2.V} {ds : List D} (h : RA K V vs ds) : vs.isEmpty = ds.isEmpty := by cases h <;> rfl
theorem truV_of {d : D} {b : Bool} (h : OpOk K V H v d) (sub : Ex V H) (e : truD d = some b) : TruV K v H b := by
  have r := h.seen sub
  cases d with
  | none => cases r; cases e; rfl
  | bool c => cases r; cases e; rfl
  | int i => cases r; cases e; rfl
  | str s =>
    cases r
    simp only [truD] at e
    split at e
    · rename_i hz
      cases e
      exact ⟨Evl.sz_of hz, rfl⟩
    · cases e
  | list ds =>
    cases r with
    | list hs ha => cases e; exact .inl ⟨_, hs, by rw [ha.isEmpty]⟩
  | tuple ds =>
    cases r with
    | tuple hs ha => cases e; exact .inr (.inl ⟨_, hs, by rw [ha.isEmpty]⟩)
  | dictK ks ds =>
    cases r with
    | @dictK a kvs _ _ hs hk ha =>
      cases e
      refine .inr (.inr ⟨_, hs, ?_⟩)
      rw [← hk]
      cases kvs <;> rfl
  | dictT _ _ => cases e
  | fn j => cases e
def iTru (f : EvF) : EvT := fun env => (opd f env).bind fun p => (look p.2 p.1).bind fun d => (truD d).bind fun b => some (b, p.2)
theorem sdt_tru {f : EvF} (ha : Sd K te f) : SdT K (fun σ H Q => te σ H fun x H' => ∃ k, TruV K x H' k ∧ Q k H') (iTru f) := by
  intro env b env' e σ V H ok Q q
  simp only [iTru, Option.bind_eq_some_iff] at e
  obtain ⟨⟨r, e1⟩, h1, d, h2, b', h3, h4⟩ := e
  cases h4
  exact opd_snd ha h1 ok fun v V' H' a k => ⟨b, truV_of (k.look a.ok h2) a.ok.sub h3, q V' H' a⟩
def iNotT (f : EvT) : EvT := fun env => (f env).bind fun p => some (!p.1, p.2)
def iAndT (f g : EvT) : EvT := fun env => (f env).bind fun p => if p.1 = true then g p.2 else some (false, p.2)
def iOrT (f g : EvT) : EvT := fun env => (f env).bind fun p => if p.1 = true then some (true, p.2) else g p.2
variable {t u : TT} {f g : EvT}
theorem sdt_not (ha : SdT K t f) : SdT K (tNot t) (iNotT f) := by
  intro env b env' e σ V H ok Q q
  simp only [iNotT, Option.bind_eq_some_iff] at e
  obtain ⟨⟨c, e1⟩, h1, h2⟩ := e
  cases h2
  exact ha _ _ _ h1 σ V H ok _ q
theorem sdt_and (ha : SdT K t f) (hb : SdT K u g) : SdT K (tAnd t u) (iAndT f g) := by
  intro env b env' e σ V H ok Q q
  simp only [iAndT, Option.bind_eq_some_iff] at e
  obtain ⟨⟨c, e1⟩, h1, h2⟩ := e
  refine ha _ _ _ h1 σ V H ok _ fun V' H' a => ?_
  cases c with
  | true =>
    rw [if_pos rfl]
    rw [if_pos rfl] at h2
    exact hb _ _ _ h2 σ V' H' a.ok _ fun V2 H2 a2 => q V2 H2 (a.trans a2)
  | false =>
    rw [if_neg Bool.false_ne_true]
    rw [if_neg Bool.false_ne_true] at h2
    cases h2
    exact q V' H' a
theorem sdt_or (ha : SdT K t f) (hb : SdT K u g) : SdT K (tOr t u) (iOrT f g) := by
  intro env b env' e σ V H ok Q q
  simp only [iOrT, Option.bind_eq_some_iff] at e
  obtain ⟨⟨c, e1⟩, h1, h2⟩ := e
  refine ha _ _ _ h1 σ V H ok _ fun V' H' a => ?_
  cases c with
  | true =>
    rw [if_pos rfl]
    rw [if_pos rfl] at h2
    cases h2
    exact q V' H' a
  | false =>
    rw [if_neg Bool.false_ne_true]
    rw [if_neg Bool.false_ne_true] at h2
    exact hb _ _ _ h2 σ V' H' a.ok _ fun V2 H2 a2 => q V2 H2 (a.trans a2)
/-! ### and, or, not, if as values -/
def iAnd (fa fb : EvF) : EvF := fun env => (fa env).bind fun p => (isB p.1).bind fun b => if b = true then fb p.2 else some (.val (.bool false), p.2)
def iOr (fa fb : EvF) : EvF := fun env => (fa env).bind fun p => (isB p.1).bind fun b => if b = true then some (.val (.bool true), p.2) else fb p.2
def iNot (fa : EvF) : EvF := fun env => (fa env).bind fun p => (isB p.1).bind fun b => some (.val (.bool (!b)), p.2)
def iIf (c : EvT) (fa fb : EvF) : EvF := fun env => (c env).bind fun p => if p.1 = true then fa p.2 else fb p.2
theorem ROk.trans {r : Res} {V' H' : Hp} (a : Adv K σ env σ env1 V H V1 H1) (h : ROk K σ env1 H1 V' H' σ env2 v r) : ROk K σ env H V' H' σ env2 v r := by
  cases r with
  | val d => exact h
  | own i => exact h
  | new d =>
    obtain ⟨l, e, h1, h2⟩ := h
    refine ⟨l, e, ?_, h2⟩
    rcases h1 with h1 | h1
    · cases q : H l with
      | none => exact .inl rfl
      | some o => exact absurd h1 (a.dom l (by rw [q]; exact fun z => by cases z))
    · exact (a.ownL l h1).elim .inr .inl
variable {fa fb : EvF}
theorem sd_and (ha : Sd K ta fa) (hb : Sd K tb fb) : Sd K (tAndV ta tb) (iAnd fa fb) := by
  intro env res env' e σ V H ok Q q
  simp only [iAnd, Option.bind_eq_some_iff] at e
  obtain ⟨⟨r, e1⟩, h1, b, h2, h3⟩ := e
  have hr : r = _ := isB_val h2
  subst hr
  refine ha _ _ _ h1 σ V H ok _ fun v V' H' a k0 => ⟨b, R.isBool k0, ?_⟩
  cases b with
  | true =>
    rw [if_pos rfl]
    rw [if_pos rfl] at h3
    exact hb _ _ _ h3 σ V' H' a.ok _ fun v V2 H2 a2 k => q v V2 H2 (a.trans a2) (k.trans a)
  | false =>
    rw [if_neg Bool.false_ne_true]
    rw [if_neg Bool.false_ne_true] at h3
    cases h3
    exact q _ V' H' a (R.bool false)
theorem sd_or (ha : Sd K ta fa) (hb : Sd K tb fb) : Sd K (tOrV ta tb) (iOr fa fb) := by
  intro env res env' e σ V H ok Q q
  simp only [iOr, Option.bind_eq_some_iff] at e
  obtain ⟨⟨r, e1⟩, h1, b, h2, h3⟩ := e
  have hr : r = _ := isB_val h2
  subst hr
  refine ha _ _ _ h1 σ V H ok _ fun v V' H' a k0 => ⟨b, R.isBool k0, ?_⟩
  cases b with
  | true =>
    rw [if_pos rfl]
    rw [if_pos rfl] at h3
    cases h3
    exact q _ V' H' a (R.bool true)
  | false =>
    rw [if_neg Bool.false_ne_true]
    rw [if_neg Bool.false_ne_true] at h3
    exact hb _ _ _ h3 σ V' H' a.ok _ fun v V2 H2 a2 k => q v V2 H2 (a.trans a2) (k.trans a)
theorem sd_not (ha : Sd K ta fa) : Sd K (tNotV ta) (iNot fa) := by
  intro env res env' e σ V H ok Q q
  simp only [iNot, Option.bind_eq_some_iff] at e
  obtain ⟨⟨r, e1⟩, h1, b, h2, h3⟩ := e
  have hr : r = _ := isB_val h2
  subst hr
  cases h3
  exact ha _ _ _ h1 σ V H ok _ fun v V' H' a k0 => ⟨b, R.isBool k0, q _ V' H' a (R.bool _)⟩
theorem sd_if (hc : SdT K t f) (ha : Sd K ta fa) (hb : Sd K tb fb) : Sd K (tIf t ta tb) (iIf f fa fb) := by
  intro env res env' e σ V H ok Q q
  simp only [iIf, Option.bind_eq_some_iff] at e
  obtain ⟨⟨c, e1⟩, h1, h2⟩ := e
  refine hc _ _ _ h1 σ V H ok _ fun V' H' a => ?_
  cases c with
  | true =>
    rw [if_pos rfl]
    rw [if_pos rfl] at h2
    exact ha _ _ _ h2 σ V' H' a.ok _ fun v V2 H2 a2 k => q v V2 H2 (a.trans a2) (k.trans a)
  | false =>
    rw [if_neg Bool.false_ne_true]
    rw [if_neg Bool.false_ne_true] at h2
    exact hb _ _ _ h2 σ V' H' a.ok _ fun v V2 H2 a2 k => q v V2 H2 (a.trans a2) (k.trans a)
end
end DL

namespace DL
open PySem PySem.Spec PyProof.Rows L2
open Evl (Ex)

inductive Fl where
  | next (e : Nv)
  | ret (r : Res) (e : Nv)
  | brk (e : Nv)
  | cont (e : Nv)
abbrev StF := Nv → Option Fl
def FlQ (K : PySem.W.Frag) (σ : L2.St) (env : Nv) (V H : Hp) (E : Ends) : Fl → Prop
  | .next e => ∀ σ' V' H', Adv K σ env σ' e V H V' H' → E.nx σ' H'
  | .ret r e => ∀ v σ' V' H', Adv K σ env σ' e V H V' H' → ROk K σ env H V' H' σ' e v r → E.rt v H'
  | .brk e => ∀ σ' V' H', Adv K σ env σ' e V H V' H' → E.bk σ' H'
  | .cont e => ∀ σ' V' H', Adv K σ env σ' e V H V' H' → E.ct σ' H'
def SdS (K : PySem.W.Frag) (t : TS) (g : StF) : Prop := ∀ env fl, g env = some fl → ∀ (σ : L2.St) (V H : Hp), NvOk K V H σ env → ∀ E : Ends, FlQ K σ env V H E fl → t E σ H

section
variable {K : PySem.W.Frag} {σ σ1 σ2 : L2.St} {env env1 env2 : Nv} {V H V1 H1 V2 H2 : Hp} {v : L2.V} {te ta tb : TE} {E : Ends}
theorem ROk.trans2 {r : Res} {V' H' : Hp} (a : Adv K σ env σ1 env1 V H V1 H1) (h : ROk K σ1 env1 H1 V' H' σ2 env2 v r) : ROk K σ env H V' H' σ2 env2 v r := by
  cases r with
  | val d => exact h
  | own i => exact h
  | new d =>
    obtain ⟨l, e, h1, h2⟩ := h
    refine ⟨l, e, ?_, h2⟩
    rcases h1 with h1 | h1
    · cases q : H l with
      | none => exact .inl rfl
      | some o => exact absurd h1 (a.dom l (by rw [q]; exact fun z => by cases z))
    · exact (a.ownL l h1).elim .inr .inl
theorem FlQ.of {fl : Fl} (a : Adv K σ env σ1 env1 V H V1 H1) (h : FlQ K σ env V H E fl) : FlQ K σ1 env1 V1 H1 E fl := by
  cases fl with
  | next e => exact fun σ' V' H' b => h σ' V' H' (a.trans b)
  | ret r e => exact fun v σ' V' H' b k => h v σ' V' H' (a.trans b) (k.trans2 a)
  | brk e => exact fun σ' V' H' b => h σ' V' H' (a.trans b)
  | cont e => exact fun σ' V' H' b => h σ' V' H' (a.trans b)

/-! ### a slot is set -/
def setV (env : Nv) (i : Nat) (s : Sl) : Option Nv := match env[i]? with
  | none => none
  | some (.own true _) => none
  | some _ => some (env.set i s)
theorem setV_eq {i : Nat} {s : Sl} (h : setV env i s = some env2) : env2 = env.set i s ∧ i < env.length ∧ ∀ d, env[i]? ≠ some (.own true d) := by
  unfold setV at h
  split at h
  · cases h
  · cases h
  · rename_i x hne e
    cases h
    refine ⟨rfl, (List.getElem?_eq_some_iff.mp e).1, fun d z => ?_⟩
    rw [z] at e
    exact hne d (Option.some.inj e).symm
theorem adv_set {i : Nat} {s : Sl} (a : Adv K σ env σ1 env1 V H V1 H1) (e : setV env1 i s = some env2) (hs : SlOk K V1 H1 (some v) s)
    (ho : ∀ p d l, s = .own p d → v = .ref l → p = false ∧ (H l = none ∨ OwnL env σ l) ∧ ¬ Own env1 σ1 l) : Adv K σ env (σ1.set i (some v)) env2 V H V1 H1 := by
  obtain ⟨rfl, hi, hp⟩ := setV_eq e
  have hl : i < σ1.length := by rw [a.ok.len]; exact hi
  -- what is owned now
  have own1 : ∀ (j : Nat) (p : Bool) (d : D) (l : Addr), (env1.set i s)[j]? = some (.own p d) → (σ1.set i (some v))[j]? = some (some (.ref l)) → (j = i ∧ s = .own p d ∧ v = .ref l) ∨ (j ≠ i ∧ env1[j]? = some (.own p d) ∧ σ1[j]? = some (some (.ref l))) := by
    intro j p d l h1 h2
    by_cases q : j = i
    · subst q
      rw [List.getElem?_set_self hi] at h1
      rw [List.getElem?_set_self hl] at h2
      exact .inl ⟨rfl, Option.some.inj h1, Option.some.inj (Option.some.inj h2)⟩
    · rw [List.getElem?_set_ne (fun z => q z.symm)] at h1 h2
      exact .inr ⟨q, h1, h2⟩
  refine ⟨⟨?_, a.ok.sub, fun j o s' h1 h2 => ?_, fun j k p q d d' l h1 h2 h3 h4 => ?_⟩, a.ex, a.fr, a.keep, a.dom, fun l h => ?_, fun l h => ?_, fun j d h => ?_⟩
  · rw [List.length_set, List.length_set]; exact a.ok.len
  · by_cases q : j = i
    · subst q
      rw [List.getElem?_set_self hl] at h1
      rw [List.getElem?_set_self hi] at h2
      cases h1
      cases h2
      exact hs
    · rw [List.getElem?_set_ne (fun z => q z.symm)] at h1 h2
      exact a.ok.slot j o s' h1 h2
  · rcases own1 j p d l h1 h3 with ⟨e1, e2, e3⟩ | ⟨e1, e2, e3⟩ <;> rcases own1 k q d' l h2 h4 with ⟨f1, f2, f3⟩ | ⟨f1, f2, f3⟩
    · rw [e1, f1]
    · exact absurd ⟨k, q, d', f2, f3⟩ (ho p d l e2 e3).2.2
    · exact absurd ⟨j, p, d, e2, e3⟩ (ho q d' l f2 f3).2.2
    · exact a.ok.one j k p q d d' l e2 f2 e3 f3
  · obtain ⟨j, p, d, h1, h2⟩ := h
    rcases own1 j p d l h1 h2 with ⟨e1, e2, e3⟩ | ⟨e1, e2, e3⟩
    · exact (ho p d l e2 e3).2.1.elim .inr fun z => .inl z.own
    · exact a.own l ⟨j, p, d, e2, e3⟩
  · obtain ⟨j, d, h1, h2⟩ := h
    rcases own1 j false d l h1 h2 with ⟨e1, e2, e3⟩ | ⟨e1, e2, e3⟩
    · exact (ho false d l e2 e3).2.1.elim .inr .inl
    · exact a.ownL l ⟨j, d, e2, e3⟩
  · obtain ⟨⟨d', h1⟩, h2⟩ := a.par j d h
    have q : j ≠ i := fun z => hp d' (z ▸ h1)
    rw [List.getElem?_set_ne (fun z => q z.symm), List.getElem?_set_ne (fun z => q z.symm)]
    exact ⟨⟨d', h1⟩, h2⟩
/-- a slot is forgotten -/
theorem adv_no {i : Nat} {s0 : Sl} (a : Adv K σ env σ1 env1 V H V1 H1) (e : env1[i]? = some s0) (hp : ∀ d, s0 ≠ .own true d) : Adv K σ env σ1 (env1.set i .no) V H V1 H1 := by
  have hi := (List.getElem?_eq_some_iff.mp e).1
  have own1 : ∀ (j : Nat) (p : Bool) (d : D), (env1.set i .no)[j]? = some (.own p d) → j ≠ i ∧ env1[j]? = some (.own p d) := by
    intro j p d h1
    by_cases q : j = i
    · subst q
      rw [List.getElem?_set_self hi] at h1
      cases h1
    · rw [List.getElem?_set_ne (fun z => q z.symm)] at h1
      exact ⟨q, h1⟩
  refine ⟨⟨?_, a.ok.sub, fun j o s' h1 h2 => ?_, fun j k p q d d' l h1 h2 h3 h4 => a.ok.one j k p q d d' l (own1 _ _ _ h1).2 (own1 _ _ _ h2).2 h3 h4⟩, a.ex, a.fr, a.keep, a.dom, fun l h => ?_, fun l h => ?_, fun j d h => ?_⟩
  · rw [List.length_set]; exact a.ok.len
  · by_cases q : j = i
    · subst q
      rw [List.getElem?_set_self hi] at h2
      cases h2
      cases o <;> trivial
    · rw [List.getElem?_set_ne (fun z => q z.symm)] at h2
      exact a.ok.slot j o s' h1 h2
  · obtain ⟨j, p, d, h1, h2⟩ := h
    exact a.own l ⟨j, p, d, (own1 _ _ _ h1).2, h2⟩
  · obtain ⟨j, d, h1, h2⟩ := h
    exact a.ownL l ⟨j, d, (own1 _ _ _ h1).2, h2⟩
  · obtain ⟨⟨d', h1⟩, h2⟩ := a.par j d h
    have q : j ≠ i := fun z => by
      subst z
      rw [e] at h1
      exact hp d' (Option.some.inj h1)
    rw [List.getElem?_set_ne (fun z => q z.symm)]
    exact ⟨⟨d', h1⟩, h2⟩

/-! ### statements -/
def iNext : StF := fun env => some (.next env)
theorem sds_next : SdS K tNext iNext := by
  intro env fl e σ V H ok E q
  cases e
  exact q σ V H (Adv.refl ok)
def iSeq (f g : StF) : StF := fun env => match f env with
  | some (.next e) => g e
  | r => r
variable {t u : TS} {f g : StF}
theorem sds_seq (ha : SdS K t f) (hb : SdS K u g) : SdS K (tSeq t u) (iSeq f g) := by
  intro env fl e σ V H ok E q
  show t { E with nx := u E } σ H
  unfold iSeq at e
  cases hf : f env with
  | none => rw [hf] at e; cases e
  | some fl1 =>
    rw [hf] at e
    refine ha _ _ hf σ V H ok _ ?_
    cases fl1 with
    | next e1 =>
      intro σ' V' H' a
      exact hb _ _ e σ' V' H' a.ok E (q.of a)
    | ret r e1 => cases e; exact q
    | brk e1 => cases e; exact q
    | cont e1 => cases e; exact q
/-- a target: what it makes of the slots -/
abbrev TgF := Nv → D → Option Nv
def SdG (K : PySem.W.Frag) (t : TG) (g : TgF) : Prop := ∀ env d env', g env d = some env' → ∀ (σ : L2.St) (V H : Hp) (v : L2.V), NvOk K V H σ env → R K V v d →
  ∀ Q : L2.St → Hp → Prop, (∀ σ', Adv K σ env σ' env' V H V H → Q σ' H) → t v σ H Q
def iNm (i : Nat) : TgF := fun env d => setV env i (.val d)
theorem sdg_name (i : Nat) : SdG K (gName i) (iNm i) := by
  intro env d env' e σ V H v ok r Q q
  exact q _ (adv_set (Adv.refl ok) e r fun p d l z => by cases z)
abbrev TgsF := Nv → List D → Option Nv
def SdGs (K : PySem.W.Frag) (t : TGs) (g : TgsF) : Prop := ∀ env ds env', g env ds = some env' → ∀ (σ : L2.St) (V H : Hp) (vs : List L2.V), NvOk K V H σ env → RA K V vs ds →
  ∀ Q : L2.St → Hp → Prop, (∀ σ', Adv K σ env σ' env' V H V H → Q σ' H) → t vs σ H Q
def iGN : TgsF := fun env ds => match ds with
  | [] => some env
  | _ => none
def iGC (g : TgF) (gs : TgsF) : TgsF := fun env ds => match ds with
  | [] => none
  | d :: ds => (g env d).bind fun e => gs e ds
theorem sdgs_nil : SdGs K gNil iGN := by
  intro env ds env' e σ V H vs ok r Q q
  cases r with
  | nil => cases e; exact ⟨rfl, q σ (Adv.refl ok)⟩
  | cons _ _ => cases e
theorem sdgs_cons {t : TG} {ts : TGs} {g : TgF} {gs : TgsF} (h1 : SdG K t g) (h2 : SdGs K ts gs) : SdGs K (gCons t ts) (iGC g gs) := by
  intro env ds env' e σ V H vs ok r Q q
  cases r with
  | nil => cases e
  | @cons v vs d ds ra rb =>
    simp only [iGC, Option.bind_eq_some_iff] at e
    obtain ⟨e1, k1, k2⟩ := e
    exact ⟨v, vs, rfl, h1 _ _ _ k1 σ V H v ok ra _ fun σ' a => h2 _ _ _ k2 σ' V H vs a.ok rb Q fun σ2 a2 => q σ2 (a.trans a2)⟩
def gBoth (K : PySem.W.Frag) (n : Nat) (t : TGs) : TG := fun v σ H Q => gTup K n t v σ H Q ∨ gLst K n t v σ H Q
def iGT (gs : TgsF) (n : Nat) : TgF := fun env d => match d with
  | .tuple ds => if ds.length = n then gs env ds else none
  | .list ds => if ds.length = n then gs env ds else none
  | _ => none
theorem sdg_tup {ts : TGs} {gs : TgsF} {n : Nat} (h : SdGs K ts gs) : SdG K (gBoth K n ts) (iGT gs n) := by
  intro env d env' e σ V H v ok r Q q
  cases d with
  | tuple ds =>
    simp only [iGT] at e
    split at e
    · rename_i hn
      cases r with
      | @tuple a xs _ hs ha => exact .inl ⟨a, xs, rfl, Evl.ex_t ok.sub hs, by rw [ha.len]; exact hn, h _ _ _ e σ V H xs ok ha Q q⟩
    · cases e
  | list ds =>
    simp only [iGT] at e
    split at e
    · rename_i hn
      cases r with
      | @list a xs _ hs ha => exact .inr ⟨a, xs, rfl, Evl.ex_l ok.sub hs, by rw [ha.len]; exact hn, h _ _ _ e σ V H xs ok ha Q q⟩
    · cases e
  | _ => cases e
theorem pg_both {X : Cx} {es : List Expr} {c n : Nat} {t : TGs} {pos : Pos} (hc : X.calm = true) (h : PGs X es t) (hn : (assignEach es X.env).length = n) (hst : (assignEach es X.env).findIdx? (·.1) = none) : PG X (.Tuple es c pos) (gBoth X.K n t) := by
  constructor
  intro pins s σ H v u Q I r hw
  rcases hw with hw | hw
  · exact (pg_tup hc h hn hst).run pins s σ H v u Q I r hw
  · exact (pg_lst hc h hn hst).run pins s σ H v u Q I r hw
/-- x = e: ow: the slot owns what is new -/
def iAsg (ow : Bool) (i : Nat) (f : EvF) : StF := fun env => (f env).bind fun p => match p.1 with
  | .val d => (setV p.2 i (.val d)).bind fun e => some (.next e)
  | .new d => (setV p.2 i (if ow then .own false d else .val d)).bind fun e => some (.next e)
  | .own _ => none
theorem sds_asg {ow : Bool} {i : Nat} {f : EvF} (ha : Sd K te f) : SdS K (tAsg te (gName i)) (iAsg ow i f) := by
  intro env fl e σ V H ok E q
  simp only [iAsg, Option.bind_eq_some_iff] at e
  obtain ⟨⟨r, e1⟩, h1, h2⟩ := e
  refine ha _ _ _ h1 σ V H ok _ fun v V' H' a k => ?_
  show E.nx (σ.set i (some v)) H'
  cases r with
  | val d =>
    simp only [Option.bind_eq_some_iff] at h2
    obtain ⟨e2, h3, h4⟩ := h2
    cases h4
    exact q _ V' H' (adv_set a h3 k fun p d l z => by cases z)
  | own j => cases h2
  | new d =>
    simp only [Option.bind_eq_some_iff] at h2
    obtain ⟨e2, h3, h4⟩ := h2
    cases h4
    obtain ⟨l, rfl, k1, k2, k3, k4⟩ := k
    cases ow with
    | true =>
      exact q _ V' H' (adv_set a h3 (show SlOk K V' H' (some (.ref l)) (.own false d) from ⟨l, rfl, k2, k4⟩) fun p d' l' z z2 => by
        cases z
        cases z2
        exact ⟨rfl, k1, k3⟩)
    | false =>
      obtain ⟨V2, a2, r2⟩ := a.show k1 k2 k3 k4
      exact q _ V2 H' (adv_set a2 h3 r2 fun p d l z => by cases z)
/-- target = e, the target a tuple of names -/
def iAsgT (g : TgF) (f : EvF) : StF := fun env => (opd f env).bind fun p => (vis p.1).bind fun d => (g p.2 d).bind fun e => some (.next e)
theorem sds_asgT {tg : TG} {g : TgF} {f : EvF} (hg : SdG K tg g) (ha : Sd K te f) : SdS K (tAsg te tg) (iAsgT g f) := by
  intro env fl e σ V H ok E q
  simp only [iAsgT, Option.bind_eq_some_iff] at e
  obtain ⟨⟨r, e1⟩, h1, d, h2, e2, h3, h4⟩ := e
  cases h4
  refine opd_snd ha h1 ok fun v V' H' a k => ?_
  have r0 : R K V' v d := by
    cases r with
    | val d' => cases h2; exact k
    | new d' => exact k.elim
    | own j => cases h2
  exact hg _ _ _ h3 σ V' H' v a.ok r0 _ fun σ' a2 => q _ _ _ (a.trans a2)
def iIfS (c : EvT) (f g : StF) : StF := fun env => (c env).bind fun p => if p.1 = true then f p.2 else g p.2
theorem sds_if {tc : TT} {c : EvT} (hc : SdT K tc c) (ha : SdS K t f) (hb : SdS K u g) : SdS K (tIfS tc t u) (iIfS c f g) := by
  intro env fl e σ V H ok E q
  simp only [iIfS, Option.bind_eq_some_iff] at e
  obtain ⟨⟨b, e1⟩, h1, h2⟩ := e
  refine hc _ _ _ h1 σ V H ok _ fun V' H' a => ?_
  cases b with
  | true =>
    rw [if_pos rfl]
    rw [if_pos rfl] at h2
    exact ha _ _ h2 σ V' H' a.ok E (q.of a)
  | false =>
    rw [if_neg Bool.false_ne_true]
    rw [if_neg Bool.false_ne_true] at h2
    exact hb _ _ h2 σ V' H' a.ok E (q.of a)
def iRet (f : EvF) : StF := fun env => (f env).bind fun p => match p.1 with
  | .val d => some (.ret (.val d) p.2)
  | .new d => some (.ret (.new d) p.2)
  | .own i => match p.2[i]? with
    | some (.own false d) => some (.ret (.new d) (p.2.set i .no))
    | _ => none
theorem sds_ret {f : EvF} (ha : Sd K te f) : SdS K (tRet te) (iRet f) := by
  intro env fl e σ V H ok E q
  simp only [iRet, Option.bind_eq_some_iff] at e
  obtain ⟨⟨r, e1⟩, h1, h2⟩ := e
  refine ha _ _ _ h1 σ V H ok _ fun v V' H' a k => ?_
  cases r with
  | val d => cases h2; exact q v σ V' H' a k
  | new d => cases h2; exact q v σ V' H' a k
  | own i =>
    have h2' : (match e1[i]? with
      | some (.own false d) => some (Fl.ret (.new d) (e1.set i .no))
      | _ => none) = some fl := h2
    cases hs : e1[i]? with
    | none => rw [hs] at h2'; cases h2'
    | some s =>
      rw [hs] at h2'
      cases s with
      | no => cases h2'
      | val _ => cases h2'
      | own p d =>
        cases p with
        | true => cases h2'
        | false =>
          cases h2'
          obtain ⟨l, g1, g2, g3⟩ := a.ok.ownC hs
          have kv : σ[i]? = some (some v) := k.1
          rw [g1] at kv
          cases kv
          have ol : OwnL e1 σ l := ⟨i, d, hs, g1⟩
          have hi := (List.getElem?_eq_some_iff.mp hs).1
          refine q _ σ V' H' (adv_no a hs fun d z => by cases z) ⟨l, rfl, (a.ownL l ol).elim .inr .inl, g2, ?_, g3⟩
          rintro ⟨j, p, d', z1, z2⟩
          by_cases qj : j = i
          · subst qj
            rw [List.getElem?_set_self hi] at z1
            cases z1
          · rw [List.getElem?_set_ne (fun z => qj z.symm)] at z1
            exact qj (a.ok.one j i p false d' d l z1 hs z2 g1)
def iRetN : StF := fun env => some (.ret (.val .none) env)
theorem sds_retN : SdS K tRetN iRetN := by
  intro env fl e σ V H ok E q
  cases e
  exact q .non σ V H (Adv.refl ok) .none
def iDrop (f : EvF) : StF := fun env => (f env).bind fun p => some (.next p.2)
theorem sds_drop {f : EvF} (ha : Sd K te f) : SdS K (tDrop te) (iDrop f) := by
  intro env fl e σ V H ok E q
  simp only [iDrop, Option.bind_eq_some_iff] at e
  obtain ⟨⟨r, e1⟩, h1, h2⟩ := e
  cases h2
  exact ha _ _ _ h1 σ V H ok _ fun v V' H' a k => q σ V' H' a
def iBrk : StF := fun env => some (.brk env)
def iCont : StF := fun env => some (.cont env)
theorem sds_brk : SdS K tBreak iBrk := by
  intro env fl e σ V H ok E q
  cases e
  exact q σ V H (Adv.refl ok)
theorem sds_cont : SdS K tCont iCont := by
  intro env fl e σ V H ok E q
  cases e
  exact q σ V H (Adv.refl ok)
/-- x op= e on ints -/
def iAug (i : Nat) (h : Int → Int → Int) (f : EvF) : StF := fun env => match env[i]? with
  | some (.val (.int a)) => (f env).bind fun p => match p.1 with
    | .val (.int b) => (setV p.2 i (.val (.int (h a b)))).bind fun e => some (.next e)
    | _ => none
  | _ => none
theorem sds_aug {i : Nat} {h : Int → Int → Int} {f : EvF} (ha : Sd K te f) : SdS K (tAug i te (ipI h)) (iAug i h f) := by
  intro env fl e σ V H ok E q
  unfold iAug at e
  split at e
  · rename_i x hx
    obtain ⟨w, hw, rw0⟩ := ok.val hx
    cases rw0
    refine ⟨_, hw, ?_⟩
    simp only [Option.bind_eq_some_iff] at e
    obtain ⟨⟨r, e1⟩, h1, h2⟩ := e
    refine ha _ _ _ h1 σ V H ok _ fun v V' H' a k => ?_
    split at h2
    · rename_i b hb
      have hb' : r = .val (.int b) := hb
      subst hb'
      cases k
      simp only [Option.bind_eq_some_iff] at h2
      obtain ⟨e2, h3, h4⟩ := h2
      cases h4
      exact ⟨_, _, rfl, rfl, q _ V' H' (adv_set a h3 (show SlOk K V' H' (some (.int (h x b))) (.val (.int (h x b))) from R.int _) fun p d l z => by cases z)⟩
    · cases h2
  · cases e

/-! ### loops -/
def floop (tg : TgF) (body : StF) : List D → Nv → Option Fl
  | [], env => some (.next env)
  | d :: ds, env => (tg env d).bind fun e1 => match body e1 with
    | some (.next e2) => floop tg body ds e2
    | some (.cont e2) => floop tg body ds e2
    | some (.brk e2) => some (.next e2)
    | some (.ret r e2) => some (.ret r e2)
    | none => none
/-- what a loop walks: the items are visible -/
def Mk (K : PySem.W.Frag) (J : It) (σ : L2.St) (V H : Hp) (ds : List D) : Prop :=
  ∀ (g : TG) (tb : TS) (E : Ends) (Pv : Nat → L2.St → Hp → Hp → Prop), Pv 0 σ V H → (∀ i σ1 V1 H1, Pv i σ1 V1 H1 → Ex V V1 ∧ Ex V1 H1) →
    (∀ i d σ1 V1 H1, ds[i]? = some d → Pv i σ1 V1 H1 → ∀ x V2 H2, Al V1 H1 V2 H2 → R K V2 x d →
      g x σ1 H2 fun σ2 H2 => tb { E with nx := fun σ' H' => ∃ V', Pv (i + 1) σ' V' H', ct := fun σ' H' => ∃ V', Pv (i + 1) σ' V' H', bk := E.nx } σ2 H2) →
    (∀ σ1 V1 H1, Pv ds.length σ1 V1 H1 → E.nx σ1 H1) →
    ∃ W : Nat → Nat → L2.St → Hp → Prop, (∃ m, W 0 m σ H) ∧ ∀ i m σ H, W i m σ H →
      (J.stop i H ∧ E.nx σ H) ∨ (J.go i H ∧ ∃ N : L2.St → Hp → Prop, (∀ σ' H', N σ' H' → ∃ m', m' < m ∧ W (i + 1) m' σ' H') ∧ ∀ x H', J.yld i H x H' → g x σ H' fun σ2 H2 => tb { E with nx := N, ct := N, bk := E.nx } σ2 H2)
/-- .. in a comprehension -/
def MkC (K : PySem.W.Frag) (J : It) (σ : L2.St) (V H : Hp) (ds : List D) : Prop :=
  ∀ (g : TG) (tt : TT) (te : TE) (vs : List Nat) (Dl : Addr) (Pv : Nat → Hp → Hp → Prop) (Qd : Hp → Prop), Pv 0 V (upd H Dl (.lst [])) → (∀ i V1 H1, Pv i V1 H1 → Ex V V1 ∧ Ex V1 H1) →
    (∀ i d V1 H1, ds[i]? = some d → Pv i V1 H1 → ∀ x V2 H2, Al V1 H1 V2 H2 → R K V2 x d → g x (wipe σ vs) H2 fun σ2 H2 => wipe σ2 vs = wipe σ vs ∧ tt σ2 H2 fun b H3 =>
      if b = true then te σ2 H3 fun y H4 => ∃ acc, H4 Dl = some (.lst acc) ∧ acc.length < sizeLine ∧ ∃ V', Pv (i + 1) V' (upd H4 Dl (.lst (acc ++ [y]))) else ∃ V', Pv (i + 1) V' H3) →
    (∀ V1 H1, Pv ds.length V1 H1 → Qd H1) →
    ∃ W : Nat → Nat → Hp → Prop, (∃ m, W 0 m (upd H Dl (.lst []))) ∧ ∀ i m H, W i m H →
      (J.stop i H ∧ Qd H) ∨ (J.go i H ∧ ∃ Nx : Hp → Prop, (∀ H', Nx H' → ∃ m', m' < m ∧ W (i + 1) m' H') ∧ ∀ x H', J.yld i H x H' → g x (wipe σ vs) H' fun σ2 H2 => wipe σ2 vs = wipe σ vs ∧ tt σ2 H2 fun b H3 =>
        if b = true then te σ2 H3 fun y H4 => ∃ acc, H4 Dl = some (.lst acc) ∧ acc.length < sizeLine ∧ Nx (upd H4 Dl (.lst (acc ++ [y]))) else Nx H3)
abbrev ItF := Nv → Option (List D × Nv)
def SdI (K : PySem.W.Frag) (wi : TI) (f : ItF) : Prop := ∀ env ds env', f env = some (ds, env') → ∀ (σ : L2.St) (V H : Hp), NvOk K V H σ env →
  ∀ Rr : It → Hp → Prop, (∀ J V' H', Adv K σ env σ env' V H V' H' → Mk K J σ V' H' ds ∧ MkC K J σ V' H' ds → Rr J H') → wi σ H Rr
def iFor (it : ItF) (g : TgF) (body : StF) : StF := fun env => (it env).bind fun p => floop g body p.1 p.2
theorem sds_for {wi : TI} {it : ItF} {tg : TG} {gt : TgF} {tb : TS} {body : StF} (hi : SdI K wi it) (hg : SdG K tg gt) (hb : SdS K tb body) : SdS K (tFor wi tg tb) (iFor it gt body) := by
  intro env fl e σ V H ok E q
  simp only [iFor, Option.bind_eq_some_iff] at e
  obtain ⟨⟨ds, e1⟩, h1, h2⟩ := e
  refine hi _ _ _ h1 σ V H ok _ fun J V' H' a mk => ?_
  have q' := q.of a
  replace mk := mk.1
  refine mk tg tb E (fun i σ1 V1 H1 => ∃ env', Adv K σ e1 σ1 env' V' H' V1 H1 ∧ floop gt body (ds.drop i) env' = some fl) ⟨e1, Adv.refl a.ok, h2⟩ (fun i σ1 V1 H1 ⟨env', b, _⟩ => ⟨b.ex, b.ok.sub⟩) ?_ ?_
  · intro i d σ1 V1 H1 hd ⟨env', b, hf⟩ x V2 H2 al r
    have e0 : ds.drop i = d :: ds.drop (i + 1) := by
      obtain ⟨hlt, rfl⟩ := List.getElem?_eq_some_iff.mp hd
      exact List.drop_eq_getElem_cons hlt
    rw [e0] at hf
    have b2 := b.trans (al.adv b.ok)
    simp only [floop, Option.bind_eq_some_iff] at hf
    obtain ⟨e2, g1, g2⟩ := hf
    refine hg _ _ _ g1 σ1 V2 H2 x b2.ok r _ fun σ2 a2 => ?_
    have a3 := b2.trans a2
    cases hbo : body e2 with
    | none => rw [hbo] at g2; cases g2
    | some fl1 =>
      rw [hbo] at g2
      refine hb _ _ hbo σ2 V2 H2 a3.ok _ ?_
      cases fl1 with
      | next e3 => exact fun σ' V' H' c => ⟨V', e3, a3.trans c, g2⟩
      | cont e3 => exact fun σ' V' H' c => ⟨V', e3, a3.trans c, g2⟩
      | brk e3 => cases g2; exact fun σ' V' H' c => q' σ' V' H' (a3.trans c)
      | ret r2 e3 => cases g2; exact fun v σ' V' H' c k => q' v σ' V' H' (a3.trans c) (k.trans2 a3)
  · intro σ1 V1 H1 ⟨env', b, hf⟩
    rw [List.drop_length] at hf
    cases hf
    exact q' σ1 V1 H1 b
theorem mk_list {a : Addr} {xs : List L2.V} {ds : List D} (hs : SqL K V a xs) (r : RA K V xs ds) : Mk K (Itl K a) σ V H ds := by
  intro g tb E Pv h0 hx hi hd
  refine for_list (xs := xs) (fun i σ1 H1 => ∃ V1, Pv i σ1 V1 H1) ⟨V, h0⟩ (fun i σ1 H1 _ ⟨V1, p⟩ => ?_) (fun i x σ1 H1 hxi ⟨V1, p⟩ => ?_) (fun σ1 H1 ⟨V1, p⟩ => ?_)
  · obtain ⟨p1, p2⟩ := hx i σ1 V1 H1 p
    exact Evl.ex_l (p1.trans p2) hs
  · obtain ⟨p1, p2⟩ := hx i σ1 V1 H1 p
    obtain ⟨d, hdi, rd⟩ := r.getV hxi
    exact hi i d σ1 V1 H1 hdi p x V1 H1 (Al.refl p2) (R.mono p1 _ _ rd)
  · rw [r.len] at p
    exact hd σ1 V1 H1 p
theorem mk_tup {a : Addr} {xs : List L2.V} {ds : List D} (hs : SqT K V a xs) (r : RA K V xs ds) : Mk K (Itt K a) σ V H ds := by
  intro g tb E Pv h0 hx hi hd
  refine for_tup (xs := xs) (fun i σ1 H1 => ∃ V1, Pv i σ1 V1 H1) ⟨V, h0⟩ (fun i σ1 H1 _ ⟨V1, p⟩ => ?_) (fun i x σ1 H1 hxi ⟨V1, p⟩ => ?_) (fun σ1 H1 ⟨V1, p⟩ => ?_)
  · obtain ⟨p1, p2⟩ := hx i σ1 V1 H1 p
    exact Evl.ex_t (p1.trans p2) hs
  · obtain ⟨p1, p2⟩ := hx i σ1 V1 H1 p
    obtain ⟨d, hdi, rd⟩ := r.getV hxi
    exact hi i d σ1 V1 H1 hdi p x V1 H1 (Al.refl p2) (R.mono p1 _ _ rd)
  · rw [r.len] at p
    exact hd σ1 V1 H1 p
theorem mkc_list {a : Addr} {xs : List L2.V} {ds : List D} (hs : SqL K V a xs) (r : RA K V xs ds) : MkC K (Itl K a) σ V H ds := by
  intro g tt te vs Dl Pv Qd h0 hx hi hd
  refine lc_list (xs := xs) (fun i H1 => ∃ V1, Pv i V1 H1) ⟨V, h0⟩ (fun i H1 _ ⟨V1, p⟩ => ?_) (fun i x H1 hxi ⟨V1, p⟩ => ?_) (fun H1 ⟨V1, p⟩ => ?_)
  · obtain ⟨p1, p2⟩ := hx i V1 H1 p
    exact Evl.ex_l (p1.trans p2) hs
  · obtain ⟨p1, p2⟩ := hx i V1 H1 p
    obtain ⟨d, hdi, rd⟩ := r.getV hxi
    exact hi i d V1 H1 hdi p x V1 H1 (Al.refl p2) (R.mono p1 _ _ rd)
  · rw [r.len] at p
    exact hd V1 H1 p
theorem mkc_tup {a : Addr} {xs : List L2.V} {ds : List D} (hs : SqT K V a xs) (r : RA K V xs ds) : MkC K (Itt K a) σ V H ds := by
  intro g tt te vs Dl Pv Qd h0 hx hi hd
  refine lc_tup (xs := xs) (fun i H1 => ∃ V1, Pv i V1 H1) ⟨V, h0⟩ (fun i H1 _ ⟨V1, p⟩ => ?_) (fun i x H1 hxi ⟨V1, p⟩ => ?_) (fun H1 ⟨V1, p⟩ => ?_)
  · obtain ⟨p1, p2⟩ := hx i V1 H1 p
    exact Evl.ex_t (p1.trans p2) hs
  · obtain ⟨p1, p2⟩ := hx i V1 H1 p
    obtain ⟨d, hdi, rd⟩ := r.getV hxi
    exact hi i d V1 H1 hdi p x V1 H1 (Al.refl p2) (R.mono p1 _ _ rd)
  · rw [r.len] at p
    exact hd V1 H1 p
def rngD (lo : Int) (n : Nat) : List D := (List.range n).map fun (k : Nat) => D.int (lo + (k : Int))
theorem rngD_len (lo : Int) (n : Nat) : (rngD lo n).length = n := by unfold rngD; rw [List.length_map, List.length_range]
theorem rngD_get {lo : Int} {n i : Nat} (h : i < n) : (rngD lo n)[i]? = some (.int (lo + (i : Int))) := by
  unfold rngD
  rw [List.getElem?_map, List.getElem?_range h]
  rfl
theorem mk_rng {lo : Int} {n : Nat} : Mk K (Itr lo n) σ V H (rngD lo n) := by
  intro g tb E Pv h0 hx hi hd
  refine for_range (lo := lo) (n := n) (fun i σ1 H1 => ∃ V1, Pv i σ1 V1 H1) ⟨V, h0⟩ (fun i σ1 H1 hin ⟨V1, p⟩ => ?_) (fun σ1 H1 ⟨V1, p⟩ => ?_)
  · obtain ⟨p1, p2⟩ := hx i σ1 V1 H1 p
    exact hi i _ σ1 V1 H1 (rngD_get hin) p _ V1 H1 (Al.refl p2) (R.int _)
  · rw [rngD_len] at hd
    exact hd σ1 V1 H1 p
theorem mkc_rng {lo : Int} {n : Nat} : MkC K (Itr lo n) σ V H (rngD lo n) := by
  intro g tt te vs Dl Pv Qd h0 hx hi hd
  refine lc_range (lo := lo) (n := n) (fun i H1 => ∃ V1, Pv i V1 H1) ⟨V, h0⟩ (fun i H1 hin ⟨V1, p⟩ => ?_) (fun H1 ⟨V1, p⟩ => ?_)
  · obtain ⟨p1, p2⟩ := hx i V1 H1 p
    exact hi i _ V1 H1 (rngD_get hin) p _ V1 H1 (Al.refl p2) (R.int _)
  · rw [rngD_len] at hd
    exact hd V1 H1 p
/-- a list or a tuple -/
def iOr2 (w1 w2 : TI) : TI := fun σ H R => w1 σ H R ∨ w2 σ H R
def iSeqI (f : EvF) : ItF := fun env => (opd f env).bind fun p => (vis p.1).bind fun d => match d with
  | .list ds => some (ds, p.2)
  | .tuple ds => some (ds, p.2)
  | _ => none
/-- a list or a tuple, whichever it is: the reading -/
def iSq (K : PySem.W.Frag) (tl : TE) : TI := fun σ H R => tl σ H fun x H1 => ∃ a, x = .ref a ∧ (((∃ xs, SqL K H1 a xs) ∧ R (Itl K a) H1) ∨ ((∃ xs, SqT K H1 a xs) ∧ R (Itt K a) H1))
theorem sdi_seq {f : EvF} (ha : Sd K te f) : SdI K (iSq K te) (iSeqI f) := by
  intro env ds env' e σ V H ok Rr q
  simp only [iSeqI, Option.bind_eq_some_iff] at e
  obtain ⟨⟨r, e1⟩, h1, d, h2, h3⟩ := e
  refine opd_snd ha h1 ok fun v V' H' a k => ?_
  have r0 : R K V' v d := by
    cases r with
    | val d' => cases h2; exact k
    | new d' => exact k.elim
    | own j => cases h2
  cases d with
  | list es =>
    cases h3
    cases r0 with
    | @list p xs _ hs hr => exact ⟨p, rfl, .inl ⟨⟨xs, Evl.ex_l a.ok.sub hs⟩, q _ V' H' a ⟨mk_list hs hr, mkc_list hs hr⟩⟩⟩
  | tuple es =>
    cases h3
    cases r0 with
    | @tuple p xs _ hs hr => exact ⟨p, rfl, .inr ⟨⟨xs, Evl.ex_t a.ok.sub hs⟩, q _ V' H' a ⟨mk_tup hs hr, mkc_tup hs hr⟩⟩⟩
  | _ => cases h3
def smR (n : Int) : Bool := decide (-1000000000 ≤ n) && decide (n ≤ 1000000000)
theorem smR_in {n : Int} (h : smR n = true) : -(2 ^ 62) ≤ n ∧ n < 2 ^ 62 := by
  simp only [smR, Bool.and_eq_true, decide_eq_true_eq] at h
  omega
def iR1 (fs : EvA) : ItF := fun env => (fs env).bind fun p => match p.1 with
  | [.val (.int n)] => if smR n = true then some (rngD 0 n.toNat, p.2) else none
  | _ => none
theorem sdi_r1 {t : TA} {fs : EvA} (ha : SdA K t fs) : SdI K (iRng1 t) (iR1 fs) := by
  intro env ds env' e σ V H ok Rr q
  simp only [iR1, Option.bind_eq_some_iff] at e
  obtain ⟨⟨r, e1⟩, h1, h3⟩ := e
  refine ha _ _ _ h1 σ V H ok _ fun vs V' H' a k => ?_
  split at h3
  · rename_i n hn
    have hn' : r = [.val (.int n)] := hn
    subst hn'
    split at h3
    · rename_i hb
      cases h3
      cases k with
      | cons k1 k2 =>
        cases k1
        cases k2
        exact ⟨n, rfl, (smR_in hb).1, (smR_in hb).2, q _ V' H' a ⟨mk_rng, mkc_rng⟩⟩
    · cases h3
  · cases h3
def iR2 (fs : EvA) : ItF := fun env => (fs env).bind fun p => match p.1 with
  | [.val (.int m), .val (.int n)] => if smR m = true ∧ smR n = true then some (rngD m (n - m).toNat, p.2) else none
  | _ => none
theorem sdi_r2 {t : TA} {fs : EvA} (ha : SdA K t fs) : SdI K (iRng2 t) (iR2 fs) := by
  intro env ds env' e σ V H ok Rr q
  simp only [iR2, Option.bind_eq_some_iff] at e
  obtain ⟨⟨r, e1⟩, h1, h3⟩ := e
  refine ha _ _ _ h1 σ V H ok _ fun vs V' H' a k => ?_
  split at h3
  · rename_i m n hn
    have hn' : r = [.val (.int m), .val (.int n)] := hn
    subst hn'
    split at h3
    · rename_i hb
      cases h3
      cases k with
      | cons k1 k2 =>
        cases k1
        cases k2 with
        | cons k2 k3 =>
          cases k2
          cases k3
          exact ⟨m, n, rfl, ⟨(smR_in hb.1).1, (smR_in hb.1).2, (smR_in hb.2).1, (smR_in hb.2).2⟩, q _ V' H' a ⟨mk_rng, mkc_rng⟩⟩
    · cases h3
  · cases h3
/-- while, at most n turns -/
def wloop (c : EvT) (body : StF) : Nat → StF
  | 0, _ => none
  | n + 1, env => (c env).bind fun p => if p.1 = true then match body p.2 with
      | some (.next e2) => wloop c body n e2
      | some (.cont e2) => wloop c body n e2
      | some (.brk e2) => some (.next e2)
      | some (.ret r e2) => some (.ret r e2)
      | none => none
    else some (.next p.2)
theorem sds_while {tc : TT} {tb : TS} {c : EvT} {body : StF} (n : Nat) (hc : SdT K tc c) (hb : SdS K tb body) : SdS K (tWhile tc tb) (wloop c body n) := by
  intro env fl e σ V H ok E q
  refine ⟨fun m σ1 H1 => ∃ env1 V1, Adv K σ env σ1 env1 V H V1 H1 ∧ wloop c body m env1 = some fl, ⟨n, env, V, Adv.refl ok, e⟩, fun m σ1 H1 ⟨env1, V1, a, hw⟩ => ?_⟩
  cases m with
  | zero => cases hw
  | succ m =>
    simp only [wloop, Option.bind_eq_some_iff] at hw
    obtain ⟨⟨b, e2⟩, h1, h2⟩ := hw
    refine hc _ _ _ h1 σ1 V1 H1 a.ok _ fun V2 H2 a2 => ?_
    have a3 := a.trans a2
    cases b with
    | false =>
      rw [if_neg Bool.false_ne_true]
      rw [if_neg Bool.false_ne_true] at h2
      cases h2
      exact q σ1 V2 H2 a3
    | true =>
      rw [if_pos rfl]
      rw [if_pos rfl] at h2
      refine ⟨fun σ' H' => ∃ env1 V1, Adv K σ env σ' env1 V H V1 H' ∧ wloop c body m env1 = some fl, fun σ' H' ⟨e', V', b', w'⟩ => ⟨m, Nat.lt_succ_self m, e', V', b', w'⟩, ?_⟩
      cases hbo : body e2 with
      | none =>
        have h2' : (match body e2 with
          | some (.next e2) => wloop c body m e2
          | some (.cont e2) => wloop c body m e2
          | some (.brk e2) => some (.next e2)
          | some (.ret r e2) => some (.ret r e2)
          | none => none) = some fl := h2
        rw [hbo] at h2'; cases h2'
      | some fl1 =>
        have h2' : (match body e2 with
          | some (.next e2) => wloop c body m e2
          | some (.cont e2) => wloop c body m e2
          | some (.brk e2) => some (.next e2)
          | some (.ret r e2) => some (.ret r e2)
          | none => none) = some fl := h2
        rw [hbo] at h2'
        refine hb _ _ hbo σ1 V2 H2 a3.ok _ ?_
        cases fl1 with
        | next e3 => exact fun σ' V' H' c => ⟨e3, V', a3.trans c, h2'⟩
        | cont e3 => exact fun σ' V' H' c => ⟨e3, V', a3.trans c, h2'⟩
        | brk e3 => cases h2'; exact fun σ' V' H' c => q σ' V' H' (a3.trans c)
        | ret r2 e3 => cases h2'; exact fun v σ' V' H' c k => q v σ' V' H' (a3.trans c) (k.trans2 a3)
end
end DL

namespace DL
open PySem PySem.Spec PyProof.Rows L2
open Evl (Ex)

/-! ### defs and calls -/
abbrev Fn := List Sl → Option (Res × List Sl)
/-- what a def of this meaning promises -/
def spF (K : PySem.W.Frag) (n : Nat) (g : Fn) : Sp := fun vs H Q _ => vs.length = n ∧ ∃ V sls r sls', NvOk K V H (vs.map some) sls ∧ g sls = some (r, sls') ∧
  ∀ v V' H', Adv K (vs.map some) sls (vs.map some) sls' V H V' H' → ROk K (vs.map some) sls H V' H' (vs.map some) sls' v r → Q v H'

def slsOf (env : Nv) : List Res → Option (List Sl)
  | [] => some []
  | .val d :: rs => (slsOf env rs).bind fun ss => some (.val d :: ss)
  | .new d :: rs => none
  | .own i :: rs => (look env (.own i)).bind fun d => (slsOf env rs).bind fun ss => some (.own true d :: ss)
def has (i : Nat) : List Res → Bool
  | [] => false
  | .own j :: rs => j == i || has i rs
  | _ :: rs => has i rs
def dupFree : List Res → Bool
  | [] => true
  | .own j :: rs => !has j rs && dupFree rs
  | _ :: rs => dupFree rs
/-- what slot i holds behind the call -/
def back1 (i : Nat) : List Res → List Sl → Option D
  | .own j :: rs, .own _ d :: ss => if j = i then some d else back1 i rs ss
  | _ :: rs, _ :: ss => back1 i rs ss
  | _, _ => none
def backS (rs : List Res) (ss : List Sl) (i : Nat) : Sl → Sl
  | .own p d => match back1 i rs ss with
    | some d' => .own p d'
    | none => .own p d
  | s => s
def backGo (rs : List Res) (ss : List Sl) : Nat → Nv → Nv
  | _, [] => []
  | i, s :: env => backS rs ss i s :: backGo rs ss (i + 1) env
def back (rs : List Res) (ss : List Sl) (env : Nv) : Nv := backGo rs ss 0 env
theorem backGo_len {rs : List Res} {ss : List Sl} : ∀ {env : Nv} {i : Nat}, (backGo rs ss i env).length = env.length
  | [], _ => rfl
  | s :: env, i => by
    show (backGo rs ss (i + 1) env).length + 1 = env.length + 1
    rw [backGo_len]
theorem backGo_at {rs : List Res} {ss : List Sl} : ∀ {env : Nv} {i j : Nat}, (backGo rs ss i env)[j]? = (env[j]?).map (backS rs ss (i + j))
  | [], _, _ => rfl
  | s :: env, i, 0 => rfl
  | s :: env, i, j + 1 => by
    show (backGo rs ss (i + 1) env)[j]? = (env[j]?).map (backS rs ss (i + (j + 1)))
    rw [backGo_at, show i + 1 + j = i + (j + 1) by omega]
def notOwnR : Res → Bool
  | .own _ => false
  | _ => true
def iCall (g : Fn) (fs : EvA) : EvF := fun env => (fs env).bind fun p => (slsOf p.2 p.1).bind fun ss => if dupFree p.1 = true then
    (g ss).bind fun q => if notOwnR q.1 = true then some (q.1, back p.1 q.2 p.2) else none else none

section
variable {K : PySem.W.Frag} {σ σ1 σ2 : L2.St} {env env1 env2 : Nv} {V H V1 H1 V2 H2 : Hp} {v : L2.V} {te ta tb : TE}
theorem sls_len : ∀ {rs : List Res} {ss : List Sl}, slsOf env rs = some ss → ss.length = rs.length
  | [], ss, h => by cases h; rfl
  | .val d :: rs, ss, h => by
    simp only [slsOf, Option.bind_eq_some_iff] at h
    obtain ⟨s1, h1, h2⟩ := h
    cases h2
    rw [List.length_cons, List.length_cons, sls_len h1]
  | .new d :: rs, ss, h => by cases h
  | .own i :: rs, ss, h => by
    simp only [slsOf, Option.bind_eq_some_iff] at h
    obtain ⟨d, h0, s1, h1, h2⟩ := h
    cases h2
    rw [List.length_cons, List.length_cons, sls_len h1]
theorem look_own {i : Nat} {d : D} (h : look env (.own i) = some d) : ∃ p, env[i]? = some (.own p d) := by
  have h' : (match env[i]? with
    | some (.own _ d) => some d
    | _ => none) = some d := h
  cases q : env[i]? with
  | none => rw [q] at h'; cases h'
  | some s =>
    rw [q] at h'
    cases s with
    | no => cases h'
    | val _ => cases h'
    | own p d' => cases h'; exact ⟨p, rfl⟩
theorem heldA_len {vs : List L2.V} {rs : List Res} (h : HeldA K V σ vs rs) : vs.length = rs.length := by
  induction h with
  | nil => rfl
  | cons _ _ ih => rw [List.length_cons, List.length_cons, ih]
/-- the arguments one by one -/
theorem args_at {vs : List L2.V} {rs : List Res} (h : HeldA K V σ vs rs) : ∀ {ss : List Sl}, slsOf env rs = some ss → ∀ (k : Nat) (s : Sl), ss[k]? = some s →
    ∃ x, vs[k]? = some x ∧ ((∃ d, s = .val d ∧ R K V x d) ∨ ∃ i d p, s = .own true d ∧ rs[k]? = some (.own i) ∧ σ[i]? = some (some x) ∧ env[i]? = some (.own p d)) := by
  induction h with
  | nil => intro ss e k s hs; cases e; simp at hs
  | @cons x r vs rs h0 hr ih =>
    intro ss e k s hs
    cases r with
    | val d =>
      simp only [slsOf, Option.bind_eq_some_iff] at e
      obtain ⟨s1, h1, h2⟩ := e
      cases h2
      cases k with
      | zero => cases hs; exact ⟨x, rfl, .inl ⟨d, rfl, h0⟩⟩
      | succ k => exact ih h1 k s hs
    | new d => cases e
    | own i =>
      simp only [slsOf, Option.bind_eq_some_iff] at e
      obtain ⟨d, h3, s1, h1, h2⟩ := e
      cases h2
      cases k with
      | zero =>
        cases hs
        obtain ⟨p, hp⟩ := look_own h3
        exact ⟨x, rfl, .inr ⟨i, d, p, rfl, rfl, h0, hp⟩⟩
      | succ k => exact ih h1 k s hs
theorem args_own : ∀ {rs : List Res} {ss : List Sl} {k i : Nat}, slsOf env rs = some ss → rs[k]? = some (.own i) → ∃ d, ss[k]? = some (.own true d)
  | [], _, _, _, _, h => by simp at h
  | .val d :: rs, ss, k, i, e, h => by
    simp only [slsOf, Option.bind_eq_some_iff] at e
    obtain ⟨s1, h1, h2⟩ := e
    cases h2
    cases k with
    | zero => cases Option.some.inj h
    | succ k => exact args_own (rs := rs) (k := k) h1 h
  | .new d :: rs, ss, k, i, e, h => by cases e
  | .own j :: rs, ss, k, i, e, h => by
    simp only [slsOf, Option.bind_eq_some_iff] at e
    obtain ⟨d, h3, s1, h1, h2⟩ := e
    cases h2
    cases k with
    | zero => exact ⟨d, rfl⟩
    | succ k => exact args_own (rs := rs) (k := k) h1 h
theorem has_of {i : Nat} : ∀ {rs : List Res} {k : Nat}, rs[k]? = some (.own i) → has i rs = true
  | [], _, h => by simp at h
  | r :: rs, 0, h => by
    cases Option.some.inj h
    simp [has]
  | r :: rs, k + 1, h => by
    have q := has_of (rs := rs) (k := k) h
    cases r <;> simp [has, q]
theorem dup_free : ∀ {rs : List Res} {j k i : Nat}, dupFree rs = true → rs[j]? = some (.own i) → rs[k]? = some (.own i) → j = k
  | [], _, _, _, _, h, _ => by simp at h
  | r :: rs, 0, 0, _, _, _, _ => rfl
  | r :: rs, 0, k + 1, i, d, h1, h2 => by
    cases Option.some.inj h1
    simp only [dupFree, Bool.and_eq_true, Bool.not_eq_true'] at d
    rw [has_of (rs := rs) (k := k) h2] at d
    exact absurd d.1 (by decide)
  | r :: rs, j + 1, 0, i, d, h1, h2 => by
    cases Option.some.inj h2
    simp only [dupFree, Bool.and_eq_true, Bool.not_eq_true'] at d
    rw [has_of (rs := rs) (k := j) h1] at d
    exact absurd d.1 (by decide)
  | r :: rs, j + 1, k + 1, i, d, h1, h2 => by
    have d' : dupFree rs = true := by
      cases r with
      | own _ => simp only [dupFree, Bool.and_eq_true] at d; exact d.2
      | val _ => exact d
      | new _ => exact d
    rw [dup_free (rs := rs) (j := j) (k := k) d' h1 h2]
theorem back1_some : ∀ {i : Nat} {rs : List Res} {ss : List Sl} {d : D}, back1 i rs ss = some d → ∃ (k : Nat) (p : Bool), rs[k]? = some (.own i) ∧ ss[k]? = some (.own p d)
  | _, [], _, _, h => by simp [back1] at h
  | _, r :: _, [], _, h => by cases r <;> simp [back1] at h
  | i, r :: rs, s :: ss, d, h => by
    have rec' : back1 i rs ss = some d → ∃ (k : Nat) (p : Bool), (r :: rs)[k]? = some (.own i) ∧ (s :: ss)[k]? = some (.own p d) := fun h => by
      obtain ⟨k, p, h1, h2⟩ := back1_some (rs := rs) (ss := ss) h
      exact ⟨k + 1, p, h1, h2⟩
    cases r with
    | val _ => exact rec' h
    | new _ => exact rec' h
    | own j =>
      cases s with
      | no => exact rec' h
      | val _ => exact rec' h
      | own p d' =>
        simp only [back1] at h
        split at h
        · rename_i q
          subst q
          cases h
          exact ⟨0, p, rfl, rfl⟩
        · exact rec' h
theorem back1_none : ∀ {i k : Nat} {rs : List Res} {ss : List Sl} {p : Bool} {d : D}, back1 i rs ss = none → rs[k]? = some (.own i) → ss[k]? = some (.own p d) → False
  | _, _, [], _, _, _, _, h, _ => by simp at h
  | _, _, _ :: _, [], _, _, _, _, h => by simp at h
  | i, 0, r :: rs, s :: ss, p, d, h, h1, h2 => by
    cases Option.some.inj h1
    cases Option.some.inj h2
    simp [back1] at h
  | i, k + 1, r :: rs, s :: ss, p, d, h, h1, h2 => by
    have h' : back1 i rs ss = none := by
      cases r with
      | val _ => exact h
      | new _ => exact h
      | own j =>
        cases s with
        | no => exact h
        | val _ => exact h
        | own p d' =>
          simp only [back1] at h
          split at h
          · cases h
          · exact h
    exact back1_none (rs := rs) (ss := ss) (k := k) h' h1 h2
theorem back_at {rs : List Res} {ss : List Sl} {i : Nat} : (back rs ss env)[i]? = (env[i]?).map (backS rs ss i) := by
  unfold back
  rw [backGo_at, Nat.zero_add]
theorem back_own {rs : List Res} {ss : List Sl} {i : Nat} {p : Bool} {d : D} (h : (back rs ss env)[i]? = some (.own p d)) : ∃ d0, env[i]? = some (.own p d0) ∧ (back1 i rs ss = some d ∨ (back1 i rs ss = none ∧ d0 = d)) := by
  rw [back_at] at h
  cases q : env[i]? with
  | none => rw [q] at h; cases h
  | some s =>
    rw [q] at h
    cases s with
    | no => cases h
    | val _ => cases h
    | own p' d0 =>
      have h' : (match back1 i rs ss with
        | some d' => Sl.own p' d'
        | none => Sl.own p' d0) = .own p d := Option.some.inj h
      cases b : back1 i rs ss with
      | some d' => rw [b] at h'; cases h'; exact ⟨d0, rfl, .inl rfl⟩
      | none => rw [b] at h'; cases h'; exact ⟨d, rfl, .inr ⟨rfl, rfl⟩⟩
theorem own_back {rs : List Res} {ss : List Sl} {i : Nat} {p : Bool} {d : D} (h : env[i]? = some (.own p d)) : ∃ d', (back rs ss env)[i]? = some (.own p d') := by
  rw [back_at, h]
  cases b : back1 i rs ss with
  | some d' => exact ⟨d', by simp [b, backS]⟩
  | none => exact ⟨d, by simp [b, backS]⟩
theorem back_val {rs : List Res} {ss : List Sl} {i : Nat} {s : Sl} (h : (back rs ss env)[i]? = some s) (n : ∀ p d, s ≠ .own p d) : env[i]? = some s := by
  rw [back_at] at h
  cases q : env[i]? with
  | none => rw [q] at h; cases h
  | some s0 =>
    rw [q] at h
    cases s0 with
    | no => cases h; rfl
    | val _ => cases h; rfl
    | own p' d0 =>
      have h' : (match back1 i rs ss with
        | some d' => Sl.own p' d'
        | none => Sl.own p' d0) = s := Option.some.inj h
      cases b : back1 i rs ss with
      | some d' => rw [b] at h'; exact absurd h'.symm (n _ _)
      | none => rw [b] at h'; exact absurd h'.symm (n _ _)
theorem map_some_at {vs : List L2.V} {k : Nat} {o : Option L2.V} (h : (vs.map some)[k]? = some o) : ∃ x, o = some x ∧ vs[k]? = some x := by
  rw [List.getElem?_map] at h
  cases q : vs[k]? with
  | none => rw [q] at h; cases h
  | some x => rw [q] at h; cases h; exact ⟨x, rfl, rfl⟩
theorem map_some_of {vs : List L2.V} {k : Nat} {x : L2.V} (h : vs[k]? = some x) : (vs.map some)[k]? = some (some x) := by rw [List.getElem?_map, h]; rfl
/-- the callee's slots at its start -/
theorem args_ok {vs : List L2.V} {rs : List Res} {ss : List Sl} (ok : NvOk K V H σ env) (h : HeldA K V σ vs rs) (e : slsOf env rs = some ss) (df : dupFree rs = true) : NvOk K V H (vs.map some) ss := by
  refine ⟨by rw [List.length_map, sls_len e, heldA_len h], ok.sub, fun k o s h1 h2 => ?_, fun j k p q d d' l h1 h2 h3 h4 => ?_⟩
  · obtain ⟨x, hx, c⟩ := args_at h e k s h2
    obtain ⟨y, rfl, hy⟩ := map_some_at h1
    rw [hx] at hy
    cases hy
    rcases c with ⟨d, rfl, r⟩ | ⟨i, d, p, rfl, _, g2, g3⟩
    · exact r
    · obtain ⟨l, k1, k2, k3⟩ := ok.ownC g3
      rw [g2] at k1
      cases k1
      exact ⟨l, rfl, k2, k3⟩
  · obtain ⟨x, hx, c⟩ := args_at h e j _ h1
    obtain ⟨y, hy, c'⟩ := args_at h e k _ h2
    rw [map_some_of hx] at h3
    rw [map_some_of hy] at h4
    cases h3
    cases h4
    rcases c with ⟨d, z, _⟩ | ⟨i, d, p, z, f1, f2, f3⟩
    · cases z
    rcases c' with ⟨d, z, _⟩ | ⟨i', d, p, z, g1, g2, g3⟩
    · cases z
    have : i = i' := ok.one i i' _ _ _ _ l f3 g3 f2 g2
    subst this
    exact dup_free df f1 g1
theorem sd_call {g : Fn} {t : TA} {fs : EvA} {n : Nat} {Xk : XK} (ha : SdA K t fs) (hn : ∀ env rs env', fs env = some (rs, env') → rs.length = n) : Sd K (tCall (spF K n g) [] Xk t) (iCall g fs) := by
  intro env res env' e σ V H ok Q q
  simp only [iCall, Option.bind_eq_some_iff] at e
  obtain ⟨⟨rs, e1⟩, h1, ss, h2, h3⟩ := e
  split at h3
  · rename_i df
    simp only [Option.bind_eq_some_iff] at h3
    obtain ⟨⟨r, ss'⟩, h4, h5⟩ := h3
    split at h5
    · rename_i hnr
      cases h5
      refine ha _ _ _ h1 σ V H ok _ fun vs V1 H1 a k => ?_
      have aok := args_ok a.ok k h2 df
      show spF K n g (vs ++ []) H1 Q Xk
      rw [List.append_nil]
      refine ⟨by rw [heldA_len k]; exact hn _ _ _ h1, V1, ss, r, ss', aok, h4, fun v V' H' b hr => ?_⟩
      -- an argument's own object is an own object here
      have ownA : ∀ l, Own ss (vs.map some) l → ∃ (i k0 : Nat) (p : Bool) (d : D), rs[k0]? = some (.own i) ∧ σ[i]? = some (some (.ref l)) ∧ e1[i]? = some (.own p d) ∧ vs[k0]? = some (.ref l) ∧ ss[k0]? = some (.own true d) := by
        rintro l ⟨k0, p, d, z1, z2⟩
        obtain ⟨x, hx, c⟩ := args_at k h2 k0 _ z1
        rw [map_some_of hx] at z2
        cases z2
        rcases c with ⟨d', z, _⟩ | ⟨i, d', p', z, g1, g2, g3⟩
        · cases z
        · cases z
          exact ⟨i, k0, p', d, g1, g2, g3, hx, z1⟩
      have noL : ∀ l, ¬ OwnL ss (vs.map some) l := by
        rintro l ⟨k0, d, z1, z2⟩
        obtain ⟨x, hx, c⟩ := args_at k h2 k0 _ z1
        rcases c with ⟨d', z, _⟩ | ⟨i, d', p', z, _⟩ <;> cases z
      have bok : NvOk K V' H' σ (back rs ss' e1) := by
        refine ⟨?_, b.ok.sub, fun i o s z1 z2 => ?_, fun i j p q d d' l z1 z2 z3 z4 => ?_⟩
        · unfold back
          rw [backGo_len]
          exact a.ok.len
        · cases s with
          | no => cases o <;> trivial
          | val d =>
            have z3 := back_val z2 (fun p d z => by cases z)
            have z4 := a.ok.slot i o _ z1 z3
            cases o with
            | none => exact z4
            | some x => exact R.mono b.ex _ _ z4
          | own p d =>
            obtain ⟨d0, z3, z4⟩ := back_own z2
            obtain ⟨l, w1, w2, w3⟩ := a.ok.ownC z3
            rw [z1] at w1
            cases w1
            rcases z4 with z4 | ⟨z4, rfl⟩
            · obtain ⟨k0, p1, u1, u2⟩ := back1_some z4
              obtain ⟨l2, y1, y2, y3⟩ := b.ok.ownC u2
              obtain ⟨x, hx, hx2⟩ := map_some_at y1
              cases hx
              have hlen : ss.length = rs.length := sls_len h2
              obtain ⟨hk, _⟩ := List.getElem?_eq_some_iff.mp u1
              obtain ⟨x, hx3, c⟩ := args_at k h2 k0 ss[k0] (List.getElem?_eq_getElem (by omega))
              rw [hx2] at hx3
              cases hx3
              rcases c with ⟨d', z, r'⟩ | ⟨i', d', p', z, g1, g2, g3⟩
              · -- a visible argument is no own one
                exfalso
                obtain ⟨d9, hd9⟩ := args_own h2 u1
                rw [List.getElem?_eq_getElem (show k0 < ss.length by omega), z] at hd9
                cases hd9
              · rw [u1] at g1
                cases g1
                rw [g2] at z1
                cases z1
                exact ⟨_, rfl, y2, y3⟩
            · -- an own object that was no argument
              have nO : ¬ Own ss (vs.map some) l := fun z => by
                obtain ⟨i', k0, p', d', y1, y2, y3, y4, y5⟩ := ownA l z
                have : i = i' := a.ok.one i i' _ _ _ _ l z3 y3 z1 y2
                subst this
                obtain ⟨⟨d2, q1⟩, _⟩ := b.par k0 d' y5
                exact back1_none z4 y1 q1
              obtain ⟨o, ho⟩ := w3.there
              refine ⟨l, rfl, ?_, w3.mono b.ex ((b.keep l o ho nO).trans ho.symm)⟩
              cases y : V' l with
              | none => rfl
              | some o2 =>
                rcases b.fr l (by rw [y]; exact fun z => by cases z) with m | m | m
                · exact absurd w2 m
                · rw [ho] at m; cases m
                · exact absurd m (noL l)
        · obtain ⟨d1, y1, _⟩ := back_own z1
          obtain ⟨d2, y2, _⟩ := back_own z2
          exact a.ok.one i j p q d1 d2 l y1 y2 z3 z4
      have adv : Adv K σ e1 σ (back rs ss' e1) V1 H1 V' H' := by
        refine ⟨bok, b.ex, fun l z => ?_, fun l o z n => ?_, b.dom, fun l z => ?_, fun l z => ?_, fun i d z => ⟨own_back z, rfl⟩⟩
        · rcases b.fr l z with m | m | m
          · exact .inl m
          · exact .inr (.inl m)
          · exact absurd m (noL l)
        · refine b.keep l o z fun m => n ?_
          obtain ⟨i, k0, p, d, y1, y2, y3, y4, y5⟩ := ownA l m
          exact ⟨i, p, d, y3, y2⟩
        · obtain ⟨i, p, d, y1, y2⟩ := z
          obtain ⟨d1, y3, _⟩ := back_own y1
          exact .inl ⟨i, p, d1, y3, y2⟩
        · obtain ⟨i, d, y1, y2⟩ := z
          obtain ⟨d1, y3, _⟩ := back_own y1
          exact .inl ⟨i, d1, y3, y2⟩
      refine q v V' H' (a.trans adv) ?_
      cases r with
      | own i => cases hnr
      | val d => exact hr
      | new d =>
        obtain ⟨l, ev, w1, w2, w3, w4⟩ := hr
        have hl : H1 l = none := w1.elim id fun m => absurd m (noL l)
        refine ⟨l, ev, .inl ?_, w2, fun z => ?_, w4⟩
        · cases y : H l with
          | none => rfl
          | some o => exact absurd hl (a.dom l (by rw [y]; exact fun z => by cases z))
        · rcases adv.own l z with m | m
          · obtain ⟨_, o, ho⟩ := a.ok.ownH m
            rw [hl] at ho
            cases ho
          · obtain ⟨i, p, d', y1, y2⟩ := z
            obtain ⟨d1, y3, _⟩ := back_own y1
            obtain ⟨_, o, ho⟩ := a.ok.ownH ⟨i, p, d1, y3, y2⟩
            rw [hl] at ho
            cases ho
    · cases h5
  · cases h3
end
end DL

namespace DL
open PySem PySem.Spec PyProof.Rows L2
open Evl (Ex)

/-! ### a def by its body -/
def outs : List Sl → Nv → Option (List Sl)
  | [], _ => some []
  | _ :: _, [] => none
  | .own p _ :: ss, s :: e => match s with
    | .own true d => (outs ss e).bind fun o => some (.own p d :: o)
    | _ => none
  | s :: ss, _ :: e => (outs ss e).bind fun o => some (s :: o)
def parOnly : List Sl → Bool
  | [] => true
  | .own false _ :: _ => false
  | _ :: ss => parOnly ss
def runDef (n N : Nat) (g : StF) : Fn := fun sls => if sls.length = n ∧ n ≤ N ∧ parOnly sls = true then (g (sls ++ List.replicate (N - n) .no)).bind fun fl => match fl with
  | .next e => (outs sls e).bind fun o => some (.val .none, o)
  | .ret r e => if notOwnR r = true then (outs sls e).bind fun o => some (r, o) else none
  | _ => none else none
theorem par_only : ∀ {ss : List Sl} {k : Nat} {p : Bool} {d : D}, parOnly ss = true → ss[k]? = some (.own p d) → p = true
  | [], _, _, _, _, h => by simp at h
  | s :: ss, 0, p, d, e, h => by
    cases Option.some.inj h
    cases p with
    | true => rfl
    | false => cases e
  | s :: ss, k + 1, p, d, e, h => by
    have e' : parOnly ss = true := by
      cases s with
      | no => exact e
      | val _ => exact e
      | own p d => cases p with
        | true => exact e
        | false => cases e
    exact par_only (ss := ss) (k := k) e' h
theorem outs_len : ∀ {ss : List Sl} {e : Nv} {o : List Sl}, outs ss e = some o → o.length = ss.length
  | [], _, _, h => by cases h; rfl
  | _ :: _, [], _, h => by simp [outs] at h
  | s0 :: ss, s :: e, o, h => by
    cases s0 with
    | own p d0 =>
      cases s with
      | own p2 d =>
        cases p2 with
        | true =>
          simp only [outs, Option.bind_eq_some_iff] at h
          obtain ⟨o1, h1, h2⟩ := h
          cases h2
          rw [List.length_cons, List.length_cons, outs_len h1]
        | false => simp [outs] at h
      | _ => simp [outs] at h
    | no =>
      simp only [outs, Option.bind_eq_some_iff] at h
      obtain ⟨o1, h1, h2⟩ := h
      cases h2
      rw [List.length_cons, List.length_cons, outs_len h1]
    | val d =>
      simp only [outs, Option.bind_eq_some_iff] at h
      obtain ⟨o1, h1, h2⟩ := h
      cases h2
      rw [List.length_cons, List.length_cons, outs_len h1]
theorem outs_at : ∀ {ss : List Sl} {e : Nv} {o : List Sl} {k : Nat} {s : Sl}, outs ss e = some o → o[k]? = some s → (ss[k]? = some s ∧ ∀ p d, s ≠ .own p d) ∨ ∃ p d d0, s = .own p d ∧ ss[k]? = some (.own p d0) ∧ e[k]? = some (.own true d)
  | [], _, _, _, _, h, h2 => by cases h; simp at h2
  | _ :: _, [], _, _, _, h, _ => by simp [outs] at h
  | s0 :: ss, s :: e, o, k, s1, h, hk => by
    cases s0 with
    | own p d0 =>
      cases s with
      | own p2 d =>
        cases p2 with
        | true =>
          simp only [outs, Option.bind_eq_some_iff] at h
          obtain ⟨o1, h1, h2⟩ := h
          cases h2
          cases k with
          | zero => cases Option.some.inj hk; exact .inr ⟨p, d, d0, rfl, rfl, rfl⟩
          | succ k => exact outs_at (ss := ss) (e := e) (k := k) h1 hk
        | false => simp [outs] at h
      | _ => simp [outs] at h
    | no =>
      simp only [outs, Option.bind_eq_some_iff] at h
      obtain ⟨o1, h1, h2⟩ := h
      cases h2
      cases k with
      | zero => cases Option.some.inj hk; exact .inl ⟨rfl, fun p d z => by cases z⟩
      | succ k => exact outs_at (ss := ss) (e := e) (k := k) h1 hk
    | val d =>
      simp only [outs, Option.bind_eq_some_iff] at h
      obtain ⟨o1, h1, h2⟩ := h
      cases h2
      cases k with
      | zero => cases Option.some.inj hk; exact .inl ⟨rfl, fun p d z => by cases z⟩
      | succ k => exact outs_at (ss := ss) (e := e) (k := k) h1 hk
section
variable {K : PySem.W.Frag} {V H : Hp} {vs : List L2.V} {sls : List Sl}
theorem rep_own {ss : List Sl} {m k : Nat} {p : Bool} {d : D} (h : (ss ++ List.replicate m Sl.no)[k]? = some (.own p d)) : ss[k]? = some (.own p d) := by
  by_cases q : k < ss.length
  · rw [List.getElem?_append_left q] at h; exact h
  · rw [List.getElem?_append_right (by omega), List.getElem?_replicate] at h
    split at h <;> cases h
theorem start_ok {m : Nat} (ok : NvOk K V H (vs.map some) sls) : NvOk K V H (vs.map some ++ List.replicate m none) (sls ++ List.replicate m .no) := by
  have hl : vs.length = sls.length := by rw [← ok.len, List.length_map]
  refine ⟨by simp [hl], ok.sub, fun i o s h1 h2 => ?_, fun i j p q d e l h1 h2 h3 h4 => ?_⟩
  · by_cases q : i < sls.length
    · rw [List.getElem?_append_left (by rw [List.length_map]; omega)] at h1
      rw [List.getElem?_append_left q] at h2
      exact ok.slot i o s h1 h2
    · rw [List.getElem?_append_right (by omega), List.getElem?_replicate] at h2
      split at h2
      · cases h2; cases o <;> trivial
      · cases h2
  · have k1 := rep_own h1
    have k2 := rep_own h2
    have b1 := (List.getElem?_eq_some_iff.mp k1).1
    have b2 := (List.getElem?_eq_some_iff.mp k2).1
    rw [List.getElem?_append_left (by rw [List.length_map]; omega)] at h3 h4
    exact ok.one i j p q d e l k1 k2 h3 h4
theorem body_ok {t : TS} {g : StF} {N : List Str} {n : Nat} {Q : VK} {Xk : XK} (h : SdS K t g) (sp : spF K n (runDef n N.length g) vs H Q Xk) : t { nx := fun _ H' => Q .non H', rt := Q } (L2.start N vs) H := by
  obtain ⟨hn, V, sls, r, sls', ok, e, q⟩ := sp
  have hl : vs.length = sls.length := by rw [← ok.len, List.length_map]
  unfold runDef at e
  split at e
  · rename_i hc
    obtain ⟨c1, c2, c3⟩ := hc
    simp only [Option.bind_eq_some_iff] at e
    obtain ⟨fl, h1, h2⟩ := e
    have ok0 : NvOk K V H (L2.start N vs) (sls ++ List.replicate (N.length - n) .no) := by
      have e0 : L2.start N vs = vs.map some ++ List.replicate (N.length - n) none := by unfold L2.start; rw [hn]
      rw [e0]
      exact start_ok ok
    -- what the body has done, seen by the caller
    have fin : ∀ (e1 : Nv) (o : List Sl) (σ' : L2.St) (V' H' : Hp), outs sls e1 = some o → Adv K (L2.start N vs) (sls ++ List.replicate (N.length - n) .no) σ' e1 V H V' H' → Adv K (vs.map some) sls (vs.map some) o V H V' H' := by
      intro e1 o σ' V' H' ho a
      have sa : ∀ (k : Nat), k < sls.length → (L2.start N vs)[k]? = (vs.map some)[k]? := fun k hk => by
        unfold L2.start
        rw [List.getElem?_append_left (by rw [List.length_map]; omega)]
      have oa : ∀ l, Own (sls ++ List.replicate (N.length - n) .no) (L2.start N vs) l ↔ Own sls (vs.map some) l := fun l => by
        constructor
        · rintro ⟨k, p, d, z1, z2⟩
          have z3 := rep_own z1
          rw [sa k (List.getElem?_eq_some_iff.mp z3).1] at z2
          exact ⟨k, p, d, z3, z2⟩
        · rintro ⟨k, p, d, z1, z2⟩
          have hk := (List.getElem?_eq_some_iff.mp z1).1
          exact ⟨k, p, d, by rw [List.getElem?_append_left hk]; exact z1, by rw [sa k hk]; exact z2⟩
      have noL : ∀ l, ¬ OwnL (sls ++ List.replicate (N.length - n) .no) (L2.start N vs) l := by
        rintro l ⟨k, d, z1, z2⟩
        cases par_only c3 (rep_own z1)
      have atk : ∀ (k : Nat) (p : Bool) (d : D), o[k]? = some (.own p d) → ∃ d0, sls[k]? = some (.own p d0) ∧ e1[k]? = some (.own true d) ∧ σ'[k]? = (vs.map some)[k]? := by
        intro k p d z
        rcases outs_at ho z with ⟨_, z2⟩ | ⟨p', d', d0, z1, z2, z3⟩
        · exact absurd rfl (z2 p d)
        · cases z1
          have hk := (List.getElem?_eq_some_iff.mp z2).1
          have hp := par_only c3 z2
          subst hp
          obtain ⟨_, z5⟩ := a.par k d0 (by rw [List.getElem?_append_left hk]; exact z2)
          exact ⟨d0, z2, z3, by rw [z5, sa k hk]⟩
      refine ⟨⟨by rw [List.length_map, outs_len ho, hl], a.ok.sub, fun k x s z1 z2 => ?_, fun i j p q d d' l z1 z2 z3 z4 => ?_⟩, a.ex, fun l z => ?_, fun l x z m => a.keep l x z fun y => m ((oa l).mp y), a.dom, fun l z => ?_, fun l z => ?_, fun k d z => ?_⟩
      · cases s with
        | no => cases x <;> trivial
        | val d =>
          rcases outs_at ho z2 with ⟨y1, _⟩ | ⟨_, _, _, y, _⟩
          · have y2 := ok.slot k x _ z1 y1
            cases x with
            | none => exact y2
            | some x => exact R.mono a.ex _ _ y2
          · cases y
        | own p d =>
          obtain ⟨d0, y1, y2, y3⟩ := atk k p d z2
          rw [z1] at y3
          have y4 := a.ok.slot k x (.own true d) y3 y2
          cases x with
          | none => exact y4
          | some x => exact y4
      · obtain ⟨d1, y1, _⟩ := atk i p d z1
        obtain ⟨d2, y2, _⟩ := atk j q d' z2
        exact ok.one i j p q d1 d2 l y1 y2 z3 z4
      · rcases a.fr l z with y | y | y
        · exact .inl y
        · exact .inr (.inl y)
        · exact absurd y (noL l)
      · obtain ⟨k, p, d, z1, z2⟩ := z
        obtain ⟨d0, y1, _⟩ := atk k p d z1
        exact .inl ⟨k, p, d0, y1, z2⟩
      · obtain ⟨k, d, z1, z2⟩ := z
        obtain ⟨d0, y1, _⟩ := atk k false d z1
        cases par_only c3 y1
      · have hk := (List.getElem?_eq_some_iff.mp z).1
        have hk2 : k < o.length := by rw [outs_len ho]; exact hk
        refine ⟨?_, rfl⟩
        rcases outs_at ho (List.getElem?_eq_getElem hk2) with ⟨y1, y2⟩ | ⟨p, d1, d0, y1, y2, y3⟩
        · rw [z] at y1
          exact absurd (Option.some.inj y1).symm (y2 true d)
        · rw [z] at y2
          cases y2
          exact ⟨d1, by rw [← y1]; exact List.getElem?_eq_getElem hk2⟩
    have noL2 : ∀ l, ¬ OwnL (sls ++ List.replicate (N.length - n) .no) (L2.start N vs) l := by
      rintro l ⟨k, d, z1, z2⟩
      cases par_only c3 (rep_own z1)
    refine h _ _ h1 _ V H ok0 _ ?_
    cases fl with
    | next e1 =>
      dsimp only at h2
      simp only [Option.bind_eq_some_iff] at h2
      obtain ⟨o, h3, h4⟩ := h2
      cases h4
      exact fun σ' V' H' a => q .non V' H' (fin e1 _ σ' V' H' h3 a) .none
    | brk e1 => cases h2
    | cont e1 => cases h2
    | ret r1 e1 =>
      dsimp only at h2
      split at h2
      · rename_i hr
        simp only [Option.bind_eq_some_iff] at h2
        obtain ⟨o, h3, h4⟩ := h2
        cases h4
        intro v σ' V' H' a k
        have f := fin e1 _ σ' V' H' h3 a
        refine q v V' H' f ?_
        cases r with
        | own i => cases hr
        | val d => exact k
        | new d =>
          obtain ⟨l, ev, w1, w2, w3, w4⟩ := k
          have hl0 : H l = none := w1.elim id fun m => absurd m (noL2 l)
          refine ⟨l, ev, .inl hl0, w2, fun z => ?_, w4⟩
          rcases f.own l z with m | m
          · obtain ⟨_, x, hx⟩ := ok.ownH m
            rw [hl0] at hx
            cases hx
          · obtain ⟨k0, p, d', y1, y2⟩ := z
            rcases outs_at h3 y1 with ⟨_, y3⟩ | ⟨p', d1, d0, y3, y4, y5⟩
            · exact y3 p d' rfl
            · cases y3
              obtain ⟨_, x, hx⟩ := ok.ownH ⟨k0, p, d0, y4, y2⟩
              rw [hl0] at hx
              cases hx
      · cases h2
  · cases e
end

/-! ### the judgements -/
def TD (X : Cx) (e : Expr) (f : EvT) : Prop := ∃ t, PT X e t ∧ SdT X.K t f
def WD (X : Cx) (e : Expr) (f : EvT) : Prop := ∃ t, PW X e t ∧ SdT X.K t f
def AD (X : Cx) (es : List Expr) (f : EvA) : Prop := ∃ t, PA X es t ∧ SdA X.K t f
def StD (X : Cx) (st : Stmt) (f : StF) : Prop := ∃ t, PS X st t ∧ SdS X.K t f
def BD (X : Cx) (st : List Stmt) (f : StF) : Prop := ∃ t, PSs X st t ∧ SdS X.K t f
def GD (X : Cx) (e : Expr) (f : TgF) : Prop := ∃ t, PG X e t ∧ SdG X.K t f
def GsD (X : Cx) (es : List Expr) (f : TgsF) : Prop := ∃ t, PGs X es t ∧ SdGs X.K t f
def ID (X : Cx) (tg e : Expr) (f : ItF) : Prop := ∃ t, PI X tg e t ∧ SdI X.K t f
section
variable {P : Program} {w : World} {K : PySem.W.Frag} {mg : Str → Option Value} {base : Heap}
/-- THE RULE for a def: its body judged -/
theorem def_ok {x qual : Str} {st : Stmt} {f : Addr} {fd : FuncData} {N ps : List Str} {k : Nat} {g : StF} (F : Fun K x qual st f fd) (S : FnScope N ps (defScope st))
    (hbody : ∀ (cdv : Value) (A : Around) (outer : List Env) (s : Shared) (H : Hp) (E : XK), Room k (A.deeper (envOfC qual (defScope st) s.heap.objs.size f cdv)) → BD (cxOf CX0 P w K mg base N qual (defScope st) f cdv A outer s H E).nox (defBody st) g) :
    FnOk P w K mg base CX0 (k + 1) f fd ps (spF K ps.length (runDef ps.length N.length g)) := by
  refine F.ok S (fun vs H Q E h => h.1) (fun cdv A outer s H vs Q E hr h => ?_)
  obtain ⟨t, h1, h2⟩ := hbody cdv A outer s H E hr
  exact ⟨t, h1, body_ok h2 h⟩
/-- no call at all -/
theorem fn_none {f : Addr} {fd : FuncData} {ps : List Str} {n : Nat} : FnOk P w K mg base CX0 0 f fd ps (spF K n fun _ => none) := by
  have no : ∀ vs H Q E, ¬ spF K n (fun _ => none) vs H Q E := fun vs H Q E h => by
    obtain ⟨_, V, sls, r, sls', _, e, _⟩ := h
    cases e
  exact ⟨fun vs H Q E h => absurd h (no vs H Q E), fun A outer s H args us vs Q E _ _ _ _ h => absurd h (no vs H Q E)⟩
end
end DL

namespace DL
open PySem PySem.Spec PyProof.Rows L2
open Evl (Ex)

/-! ### operations -/
def rOr (r s : R2) : R2 := fun x y H Q => r x y H Q ∨ s x y H Q
theorem opOr {X : Cx} {f : Value → Value → Sem Value} {r s : R2} (h : OpR X f r) (k : OpR X f s) : OpR X f (rOr r s) := by
  intro pins st σ H x y v u Q I rx ry q
  rcases q with q | q
  · exact h pins st σ H x y v u Q I rx ry q
  · exact k pins st σ H x y v u Q I rx ry q
theorem ixOr {X : Cx} {r s : R2} (h : IxR X r) (k : IxR X s) : IxR X (rOr r s) := IxR.or h k
def alt (g h : D → D → Option Res) : D → D → Option Res := fun d e => match g d e with
  | some r => some r
  | none => h d e
section
variable {K : PySem.W.Frag} {σ σ1 : L2.St} {env env1 env2 : Nv} {V H V1 H1 V2 H2 : Hp} {v : L2.V} {te ta tb : TE}
theorem binOr {r s : R2} {g h : D → D → Option Res} (a : BinOk K r g) (b : BinOk K s h) : BinOk K (rOr r s) (alt g h) := by
  intro V H x y d e res sub hx hy hg Q q
  unfold alt at hg
  split at hg
  · rename_i r' hr
    cases hg
    exact .inl (a V H x y d e res sub hx hy hr Q q)
  · exact .inr (b V H x y d e res sub hx hy hg Q q)
theorem OpOk.int {i : Int} (h : OpOk K V H v (.int i)) : v = .int i := by
  rcases h with h | ⟨l, _, _, h⟩
  · cases h; rfl
  · exact h.elim
theorem OpOk.str {i : Str} (h : OpOk K V H v (.str i)) : v = .str i := by
  rcases h with h | ⟨l, _, _, h⟩
  · cases h; rfl
  · exact h.elim
theorem OpOk.bool {i : Bool} (h : OpOk K V H v (.bool i)) : v = .bl i := by
  rcases h with h | ⟨l, _, _, h⟩
  · cases h; rfl
  · exact h.elim
theorem OpOk.none (h : OpOk K V H v .none) : v = .non := by
  rcases h with h | ⟨l, _, _, h⟩
  · cases h; rfl
  · exact h.elim
theorem OpOk.tuple {ds : List D} (h : OpOk K V H v (.tuple ds)) : ∃ a xs, v = .ref a ∧ SqT K V a xs ∧ RA K V xs ds := by
  rcases h with h | ⟨l, _, _, h⟩
  · cases h with
    | tuple h1 h2 => exact ⟨_, _, rfl, h1, h2⟩
  · exact h.elim
/-- a list: visible or owned; its items are visible -/
theorem OpOk.list {ds : List D} (h : OpOk K V H v (.list ds)) (sub : Ex V H) : ∃ a xs, v = .ref a ∧ SqL K H a xs ∧ RA K V xs ds := by
  rcases h with h | ⟨l, rfl, _, xs, h1, h2⟩
  · cases h with
    | list h1 h2 => exact ⟨_, _, rfl, Evl.ex_l sub h1, h2⟩
  · exact ⟨l, xs, rfl, Evl.sq_of h1, h2⟩
def oI (c : Int → Int → Option D) : D → D → Option Res := fun d e => match d, e with
  | .int i, .int j => (c i j).map .val
  | _, _ => none
theorem bin_I0 {g : Int → Int → L2.V} {h : Int → Int → D} (hr : ∀ i j V, R K V (g i j) (h i j)) : BinOk K (rI0 g) (oI fun i j => some (h i j)) := by
  intro V H x y d e res sub hx hy hg Q q
  unfold oI at hg
  split at hg
  · cases hx.int
    cases hy.int
    cases hg
    exact ⟨_, _, rfl, rfl, q _ V H (Al.refl sub) (hr _ _ V)⟩
  · cases hg
theorem bin_I {C : Int → Int → Prop} {g : Int → Int → L2.V} {h : Int → Int → D} {c : Int → Int → Bool} (hc : ∀ i j, c i j = true → C i j) (hr : ∀ i j V, R K V (g i j) (h i j)) : BinOk K (rI C g) (oI fun i j => if c i j = true then some (h i j) else none) := by
  intro V H x y d e res sub hx hy hg Q q
  unfold oI at hg
  split at hg
  · cases hx.int
    cases hy.int
    simp only [Option.map_eq_some_iff] at hg
    obtain ⟨d9, hg, rfl⟩ := hg
    split at hg
    · rename_i hcc
      cases hg
      exact ⟨_, _, rfl, rfl, hc _ _ hcc, q _ V H (Al.refl sub) (hr _ _ V)⟩
    · cases hg
  · cases hg
/-- + -/
def gAddS : D → D → Option Res := fun d e => match d, e with
  | .str s, .str t => if s.length + t.length ≤ 100000 then some (.val (.str (s ++ t))) else none
  | _, _ => none
def gCatT : D → D → Option Res := fun d e => match d, e with
  | .tuple s, .tuple t => if s.length + t.length ≤ 100000 then some (.val (.tuple (s ++ t))) else none
  | _, _ => none
def gCatL : D → D → Option Res := fun d e => match d, e with
  | .list s, .list t => if s.length + t.length ≤ 100000 then some (.new (.list (s ++ t))) else none
  | _, _ => none
theorem bin_addS : BinOk K (fun x y H Q => ∃ i j, x = .str i ∧ y = .str j ∧ i.length + j.length ≤ sizeLine ∧ Q (.str (i ++ j)) H) gAddS := by
  intro V H x y d e res sub hx hy hg Q q
  unfold gAddS at hg
  split at hg
  · split at hg
    · rename_i hz
      cases hx.str
      cases hy.str
      cases hg
      exact ⟨_, _, rfl, rfl, Evl.sz_of hz, q _ V H (Al.refl sub) (.str _)⟩
    · cases hg
  · cases hg
theorem bin_catT : BinOk K (rCatA K) gCatT := by
  intro V H x y d e res sub hx hy hg Q q
  unfold gCatT at hg
  split at hg
  · split at hg
    · rename_i hz
      obtain ⟨a, xs, rfl, h1, h2⟩ := hx.tuple
      obtain ⟨b, ys, rfl, h3, h4⟩ := hy.tuple
      cases hg
      refine ⟨a, b, xs, ys, rfl, rfl, Evl.ex_t sub h1, Evl.ex_t sub h3, Evl.sz_of (by rw [h2.len, h4.len]; exact hz), fun z => ?_, fun _ z => ?_, fun _ _ p hp => ?_⟩
      · subst z
        cases h2
        exact q _ V H (Al.refl sub) (.tuple h3 h4)
      · subst z
        cases h4
        rw [List.append_nil] at q
        exact q _ V H (Al.refl sub) (.tuple h1 h2)
      · have b : Al V H (upd V p (.tup (xs ++ ys))) (upd H p (.tup (xs ++ ys))) := Al.new sub hp
        exact q _ _ _ b (.tuple (Evl.st_of upd_same) (RA.mono b.ex _ _ (h2.append h4)))
    · cases hg
  · cases hg
theorem bin_catL : BinOk K (fun x y H Q => ∃ a b xs ys, x = .ref a ∧ y = .ref b ∧ SqL K H a xs ∧ SqL K H b ys ∧ xs.length + ys.length ≤ sizeLine ∧ ∀ p, H p = none → Q (.ref p) (upd H p (.lst (xs ++ ys)))) gCatL := by
  intro V H x y d e res sub hx hy hg Q q
  unfold gCatL at hg
  split at hg
  · split at hg
    · rename_i hz
      obtain ⟨a, xs, rfl, h1, h2⟩ := hx.list sub
      obtain ⟨b, ys, rfl, h3, h4⟩ := hy.list sub
      cases hg
      refine ⟨a, b, xs, ys, rfl, rfl, h1, h3, Evl.sz_of (by rw [h2.len, h4.len]; exact hz), fun p hp => ?_⟩
      exact q _ _ _ (Al.hid sub hp) ⟨p, rfl, hp, Evl.fresh_back sub hp, _, upd_same, h2.append h4⟩
    · cases hg
  · cases hg

/-! ### == -/
def toPy : D → Option PyData
  | .none => some .none
  | .bool b => some (.bool b)
  | .int i => some (.int i)
  | .str s => some (.str s)
  | .list xs => (toPys xs).map .list
  | .tuple xs => (toPys xs).map .tuple
  | _ => none
where toPys : List D → Option (List PyData)
  | [] => some []
  | d :: ds => match toPy d, toPys ds with
    | some p, some ps => some (p :: ps)
    | _, _ => none
mutual
theorem dp_of : ∀ (d : D) (v : L2.V) (p : PyData), R K H v d → toPy d = some p → Dp K H v p
  | .none, _, _, h, e => by cases h; cases e; exact .non
  | .bool b, _, _, h, e => by cases h; cases e; exact .bl b
  | .int i, _, _, h, e => by cases h; cases e; exact .int i
  | .str s, _, _, h, e => by cases h; cases e; exact .str s
  | .list xs, _, _, h, e => by
    simp only [toPy, Option.map_eq_some_iff] at e
    obtain ⟨ps, e1, rfl⟩ := e
    cases h with
    | list h1 h2 => exact .lst h1 (dps_of xs _ ps h2 e1)
  | .tuple xs, _, _, h, e => by
    simp only [toPy, Option.map_eq_some_iff] at e
    obtain ⟨ps, e1, rfl⟩ := e
    cases h with
    | tuple h1 h2 => exact .tup h1 (dps_of xs _ ps h2 e1)
  | .dictK _ _, _, _, h, e => by simp [toPy] at e
  | .dictT _ _, _, _, h, e => by simp [toPy] at e
  | .fn _, _, _, h, e => by simp [toPy] at e
theorem dps_of : ∀ (ds : List D) (vs : List L2.V) (ps : List PyData), RA K H vs ds → toPy.toPys ds = some ps → DpAll K H vs ps
  | [], _, _, h, e => by cases h; cases e; exact .nil
  | d :: ds, _, _, h, e => by
    cases h with
    | cons h1 h2 =>
      simp only [toPy.toPys] at e
      split at e
      · rename_i p ps' q1 q2
        cases e
        exact .cons (dp_of d _ p h1 q1) (dps_of ds _ ps' h2 q2)
      · cases e
end
def scalD : D → Bool
  | .none => true
  | .bool _ => true
  | .int _ => true
  | .str _ => true
  | _ => false
/-- equal data (without dicts) -/
def eqD (d e : D) : Option Bool := match d, e with
  | .int i, .int j => some (decide (i = j))
  | .str i, .str j => some (decide (i = j))
  | .bool i, .bool j => some (decide (i = j))
  | _, _ => (toPy d).bind fun p => (toPy e).bind fun q => if SeqAt.shaped p = true ∧ SeqAt.shaped q = true then some (PyData.eqv p q) else none
def gEq : D → D → Option Res := fun d e => (eqD d e).map fun b => .val (.bool b)
def gNe : D → D → Option Res := fun d e => (eqD d e).map fun b => .val (.bool (!b))
theorem eqD_inv {d e : D} {b : Bool} {x y : L2.V} (hx : R K H x d) (hy : R K H y e) (h : eqD d e = some b) : (scal x y = true ∧ b = decide (x = y)) ∨ ∃ p q, Dp K H x p ∧ Dp K H y q ∧ SeqAt.shaped p = true ∧ SeqAt.shaped q = true ∧ b = PyData.eqv p q := by
  unfold eqD at h
  split at h
  · cases hx; cases hy; cases h; exact .inl ⟨rfl, by simp⟩
  · cases hx; cases hy; cases h; exact .inl ⟨rfl, by simp⟩
  · cases hx; cases hy; cases h; exact .inl ⟨rfl, by simp⟩
  · simp only [Option.bind_eq_some_iff] at h
    obtain ⟨p, h1, q, h2, h3⟩ := h
    split at h3
    · rename_i hs
      cases h3
      exact .inr ⟨p, q, dp_of _ _ _ hx h1, dp_of _ _ _ hy h2, hs.1, hs.2, rfl⟩
    · cases h3
theorem bin_eq : BinOk K (rOr rEq (rEqD K)) gEq := by
  intro V H x y d e res sub hx hy hg Q q
  simp only [gEq, Option.map_eq_some_iff] at hg
  obtain ⟨b, hb, rfl⟩ := hg
  rcases eqD_inv (hx.seen sub) (hy.seen sub) hb with ⟨h1, rfl⟩ | ⟨p, p', h1, h2, h3, h4, rfl⟩
  · exact .inl ⟨h1, q _ V H (Al.refl sub) (.bool _)⟩
  · exact .inr ⟨p, p', h1, h2, h3, h4, q _ V H (Al.refl sub) (.bool _)⟩
theorem bin_ne : BinOk K (rOr rNe (rNeD K)) gNe := by
  intro V H x y d e res sub hx hy hg Q q
  simp only [gNe, Option.map_eq_some_iff] at hg
  obtain ⟨b, hb, rfl⟩ := hg
  rcases eqD_inv (hx.seen sub) (hy.seen sub) hb with ⟨h1, rfl⟩ | ⟨p, p', h1, h2, h3, h4, rfl⟩
  · exact .inl ⟨h1, q _ V H (Al.refl sub) (.bool _)⟩
  · exact .inr ⟨p, p', h1, h2, h3, h4, q _ V H (Al.refl sub) (.bool _)⟩
/-- is None -/
def isNoneD : D → Bool
  | .none => true
  | _ => false
def gIs : D → D → Option Res := fun d e => match e with
  | .none => some (.val (.bool (isNoneD d)))
  | _ => none
def gIsN : D → D → Option Res := fun d e => match e with
  | .none => some (.val (.bool (!isNoneD d)))
  | _ => none
theorem non_iff {d : D} (h : R K H v d) : decide (v = .non) = isNoneD d := by cases h <;> rfl
theorem bin_is : BinOk K (fun x y H Q => y = .non ∧ Q (.bl (decide (x = .non))) H) gIs := by
  intro V H x y d e res sub hx hy hg Q q
  unfold gIs at hg
  split at hg
  · cases hg
    refine ⟨hy.none, ?_⟩
    rw [non_iff (hx.seen sub)]
    exact q _ V H (Al.refl sub) (.bool _)
  · cases hg
theorem bin_isN : BinOk K (fun x y H Q => y = .non ∧ Q (.bl (!decide (x = .non))) H) gIsN := by
  intro V H x y d e res sub hx hy hg Q q
  unfold gIsN at hg
  split at hg
  · cases hg
    refine ⟨hy.none, ?_⟩
    rw [non_iff (hx.seen sub)]
    exact q _ V H (Al.refl sub) (.bool _)
  · cases hg
/-- tuples of ints: < -/
def intsOf : List D → Option (List Int)
  | [] => some []
  | .int i :: ds => (intsOf ds).map (i :: ·)
  | _ :: _ => none
theorem intsOf_eq : ∀ {ds : List D} {ns : List Int}, intsOf ds = some ns → ds = ns.map D.int
  | [], ns, h => by cases h; rfl
  | d :: ds, ns, h => by
    cases d with
    | int i =>
      simp only [intsOf, Option.map_eq_some_iff] at h
      obtain ⟨ms, h1, rfl⟩ := h
      rw [intsOf_eq h1]
      rfl
    | _ => cases h
def gLtT : D → D → Option Res := fun d e => match d, e with
  | .tuple s, .tuple t => (intsOf s).bind fun ns => (intsOf t).bind fun ms => some (.val (.bool (HT.lexLt ns ms)))
  | _, _ => none
theorem bin_ltT : BinOk K (rLtT K) gLtT := by
  intro V H x y d e res sub hx hy hg Q q
  unfold gLtT at hg
  split at hg
  · simp only [Option.bind_eq_some_iff] at hg
    obtain ⟨ns, h1, ms, h2, h3⟩ := hg
    cases h3
    obtain ⟨a, xs, rfl, k1, k2⟩ := hx.tuple
    obtain ⟨b, ys, rfl, k3, k4⟩ := hy.tuple
    rw [intsOf_eq h1] at k2
    rw [intsOf_eq h2] at k4
    rw [k2.ofInts] at k1
    rw [k4.ofInts] at k3
    exact ⟨a, b, ns, ms, rfl, rfl, Evl.ex_t sub k1, Evl.ex_t sub k3, q _ V H (Al.refl sub) (.bool _)⟩
  · cases hg
/-- in -/
def flatD : D → Bool
  | .none => true
  | .bool _ => true
  | .int _ => true
  | .str _ => true
  | _ => false
def eqF : D → D → Bool
  | .none, .none => true
  | .bool a, .bool b => a == b
  | .bool a, .int b => (if a then 1 else 0) == b
  | .int a, .bool b => a == (if b then 1 else 0)
  | .int a, .int b => a == b
  | .str a, .str b => a == b
  | _, _ => false
theorem flat_of {d : D} (h : R K H v d) (e : flatD d = true) : flatV v = true := by cases h <;> first | rfl | cases e
theorem eqF_of {d e : D} {x y : L2.V} (h : R K H x d) (k : R K H y e) (f : flatD d = true) (f2 : flatD e = true) : eqV x y = eqF d e := by
  cases h <;> cases k <;> first | rfl | cases f | cases f2
theorem flats_of : ∀ {ds : List D} {vs : List L2.V}, RA K H vs ds → ds.all flatD = true → vs.all flatV = true
  | [], _, h, _ => by cases h; rfl
  | d :: ds, _, h, e => by
    cases h with
    | cons h1 h2 =>
      rw [List.all_cons, Bool.and_eq_true] at e ⊢
      exact ⟨flat_of h1 e.1, flats_of h2 e.2⟩
theorem inV_of {d : D} {x : L2.V} (hx : R K H x d) (f : flatD d = true) : ∀ {ds : List D} {vs : List L2.V}, RA K H vs ds → ds.all flatD = true → inV x vs = ds.any fun e => eqF e d
  | [], _, h, _ => by cases h; rfl
  | e :: ds, _, h, k => by
    cases h with
    | cons h1 h2 =>
      rw [List.all_cons, Bool.and_eq_true] at k
      have q := inV_of hx f h2 k.2
      unfold inV at q ⊢
      rw [List.any_cons, List.any_cons, q, eqF_of h1 hx k.1 f]
def itemsD : D → Option (List D)
  | .list ds => some ds
  | .tuple ds => some ds
  | _ => none
def gIn (neg : Bool) : D → D → Option Res := fun d e => (itemsD e).bind fun ds => if flatD d = true ∧ ds.all flatD = true then some (.val (.bool (if neg then !ds.any (fun e => eqF e d) else ds.any (fun e => eqF e d)))) else none
theorem bin_in {neg : Bool} : BinOk K (rIn K neg) (gIn neg) := by
  intro V H x y d e res sub hx hy hg Q q
  simp only [gIn, Option.bind_eq_some_iff] at hg
  obtain ⟨ds, h1, h2⟩ := hg
  split at h2
  · rename_i hf
    cases h2
    have rx := hx.seen sub
    cases e with
    | list es =>
      cases h1
      obtain ⟨a, xs, rfl, k1, k2⟩ := hy.list sub
      refine ⟨a, xs, rfl, .inl k1, flat_of rx hf.1, flats_of k2 hf.2, ?_⟩
      rw [inV_of rx hf.1 (RA.mono sub _ _ k2) hf.2]
      exact q _ V H (Al.refl sub) (.bool _)
    | tuple es =>
      cases h1
      obtain ⟨a, xs, rfl, k1, k2⟩ := hy.tuple
      refine ⟨a, xs, rfl, .inr (Evl.ex_t sub k1), flat_of rx hf.1, flats_of k2 hf.2, ?_⟩
      rw [inV_of rx hf.1 (RA.mono sub _ _ k2) hf.2]
      exact q _ V H (Al.refl sub) (.bool _)
    | _ => cases h1
  · cases h2
def gInS (neg : Bool) : D → D → Option Res := fun d e => match d, e with
  | .str s, .str t => some (.val (.bool (if neg then !(!(Builtin.Str.occurrences t s 0 t.length 1).isEmpty) else !(Builtin.Str.occurrences t s 0 t.length 1).isEmpty)))
  | _, _ => none
theorem bin_inS : BinOk K (fun x y H Q => ∃ i j, x = .str i ∧ y = .str j ∧ Q (.bl (!(Builtin.Str.occurrences j i 0 j.length 1).isEmpty)) H) (gInS false) := by
  intro V H x y d e res sub hx hy hg Q q
  unfold gInS at hg
  split at hg
  · cases hx.str
    cases hy.str
    cases hg
    exact ⟨_, _, rfl, rfl, q _ V H (Al.refl sub) (.bool _)⟩
  · cases hg
theorem bin_ninS : BinOk K (fun x y H Q => ∃ i j, x = .str i ∧ y = .str j ∧ Q (.bl (!(!(Builtin.Str.occurrences j i 0 j.length 1).isEmpty))) H) (gInS true) := by
  intro V H x y d e res sub hx hy hg Q q
  unfold gInS at hg
  split at hg
  · cases hx.str
    cases hy.str
    cases hg
    exact ⟨_, _, rfl, rfl, q _ V H (Al.refl sub) (.bool _)⟩
  · cases hg
/-- x[i] -/
def gIx : D → D → Option Res := fun d e => match d, e with
  | .list ds, .int i => (atI ds i).map .val
  | .tuple ds, .int i => (atI ds i).map .val
  | .str s, .int i => if s.length ≤ 100000 then (atI s.cps.toList i).map fun c => .val (.str ⟨#[c]⟩) else none
  | _, _ => none
theorem RA.atI {xs : List L2.V} {ds : List D} {i : Int} {d : D} (h : RA K V xs ds) (e : L2.atI ds i = some d) : ∃ x, L2.atI xs i = some x ∧ R K V x d := by
  unfold L2.atI at e ⊢
  rw [h.len]
  cases q : ixN ds.length i with
  | none => rw [q] at e; cases e
  | some j =>
    rw [q] at e
    obtain ⟨x, h1, h2⟩ := h.get e
    exact ⟨x, h1, h2⟩
theorem bin_ix : BinOk K (rIx K) gIx := by
  intro V H x y d e res sub hx hy hg Q q
  unfold gIx at hg
  split at hg
  · simp only [Option.map_eq_some_iff] at hg
    obtain ⟨d', h1, rfl⟩ := hg
    obtain ⟨a, xs, rfl, k1, k2⟩ := hx.list sub
    cases hy.int
    obtain ⟨z, h2, h3⟩ := k2.atI h1
    exact .inl ⟨a, xs, _, z, rfl, rfl, k1, h2, q z V H (Al.refl sub) h3⟩
  · simp only [Option.map_eq_some_iff] at hg
    obtain ⟨d', h1, rfl⟩ := hg
    obtain ⟨a, xs, rfl, k1, k2⟩ := hx.tuple
    cases hy.int
    obtain ⟨z, h2, h3⟩ := k2.atI h1
    exact .inr (.inl ⟨a, xs, _, z, rfl, rfl, Evl.ex_t sub k1, h2, q z V H (Al.refl sub) h3⟩)
  · split at hg
    · rename_i hz
      simp only [Option.map_eq_some_iff] at hg
      obtain ⟨c, h1, rfl⟩ := hg
      cases hx.str
      cases hy.int
      exact .inr (.inr ⟨_, _, c, rfl, rfl, Evl.sz_of hz, h1, q _ V H (Al.refl sub) (.str _)⟩)
    · cases hg
  · cases hg
/-! ### slices -/
abbrev EvO := Nv → Option (Option Int × Nv)
def SdO (K : PySem.W.Frag) (t : TO) (f : EvO) : Prop := ∀ env o env', f env = some (o, env') → ∀ (σ : L2.St) (V H : Hp), NvOk K V H σ env →
  ∀ Q : Option Int → Hp → Prop, (∀ V' H', Adv K σ env σ env' V H V' H' → Q o H') → t σ H Q
def iNoP : EvO := fun env => some (none, env)
def isI : Res → Option Int
  | .val (.int i) => some i
  | _ => none
theorem isI_val {r : Res} {b : Int} (h : isI r = some b) : r = .val (.int b) := by
  cases r with
  | val d => cases d <;> first | (cases h; rfl) | cases h
  | _ => cases h
def iPart (f : EvF) : EvO := fun env => (f env).bind fun p => (isI p.1).bind fun i => some (some i, p.2)
theorem sdo_none : SdO K tNoPart iNoP := by
  intro env o env' e σ V H ok Q q
  cases e
  exact q V H (Adv.refl ok)
theorem sdo_part {f : EvF} (ha : Sd K te f) : SdO K (tPart te) (iPart f) := by
  intro env o env' e σ V H ok Q q
  simp only [iPart, Option.bind_eq_some_iff] at e
  obtain ⟨⟨r, e1⟩, h1, i, h2, h3⟩ := e
  cases h3
  have hr : r = _ := isI_val h2
  subst hr
  refine ha _ _ _ h1 σ V H ok _ fun v V' H' a k => ?_
  cases k
  exact ⟨i, rfl, q V' H' a⟩
def cutD {α : Type} (xs : List α) (lo hi : Option Int) : List α := (xs.drop (HT.sIx xs.length 0 lo)).take (HT.sIx xs.length xs.length hi - HT.sIx xs.length 0 lo)
theorem RA.cut {xs : List L2.V} {ds : List D} {lo hi : Option Int} (h : RA K V xs ds) : RA K V (cutV xs lo hi) (cutD ds lo hi) := by
  unfold cutV cutD
  rw [h.len]
  exact (h.drop _).take _
def gSl : D → Option Int → Option Int → Option Res := fun d lo hi => match d with
  | .list ds => some (.new (.list (cutD ds lo hi)))
  | .tuple ds => some (.val (.tuple (cutD ds lo hi)))
  | .str s => if s.length ≤ 100000 then some (.val (.str (cutS s lo hi))) else none
  | _ => none
def rSlU (K : PySem.W.Frag) : L2.V → Option Int → Option Int → Hp → VK → Prop := fun x lo hi H Q => rSlL K x lo hi H Q ∨ rSlA K x lo hi H Q ∨ rSlS x lo hi H Q
def iSl (f : EvF) (lo hi : EvO) : EvF := fun env => (opd f env).bind fun p => (lo p.2).bind fun q => (hi q.2).bind fun r => (look r.2 p.1).bind fun d => (gSl d q.1 r.1).bind fun z => some (z, r.2)
theorem cut_whole {α : Type} {xs : List α} {lo hi : Option Int} (h : HT.sIx xs.length 0 lo = 0 ∧ HT.sIx xs.length xs.length hi = xs.length) : cutD xs lo hi = xs := by
  unfold cutD
  rw [h.1, h.2]
  simp
theorem sd_sl {f : EvF} {tl th : TO} {lo hi : EvO} (ha : Sd K te f) (h1 : SdO K tl lo) (h2 : SdO K th hi) : Sd K (tSl (rSlU K) te tl th) (iSl f lo hi) := by
  intro env res env' e σ V H ok Q q
  simp only [iSl, Option.bind_eq_some_iff] at e
  obtain ⟨⟨ra, e1⟩, k1, ⟨o1, e2⟩, k2, ⟨o2, e3⟩, k3, d, k4, z, k5, k6⟩ := e
  cases k6
  refine opd_snd ha k1 ok fun x V1 H1 a1 c1 => ?_
  refine h1 _ _ _ k2 σ V1 H1 a1.ok _ fun V2 H2 a2 => ?_
  refine h2 _ _ _ k3 σ V2 H2 a2.ok _ fun V3 H3 a3 => ?_
  have a := (a1.trans a2).trans a3
  have op := ((c1.mono a2.ex).mono a3.ex).look a.ok k4
  have go : ∀ v V' H', Al V3 H3 V' H' → RR K H3 V' H' v res → Q v H' := fun v V' H' b hr => q v V' H' (a.trans (b.adv a.ok)) (hr.rok a b)
  have k5' : gSl d o1 o2 = some res := k5
  unfold gSl at k5'
  split at k5'
  · cases k5'
    obtain ⟨l, xs, rfl, g1, g2⟩ := op.list a.ok.sub
    exact .inl ⟨l, xs, rfl, g1, fun p hp => go _ _ _ (Al.hid a.ok.sub hp) ⟨p, rfl, hp, Evl.fresh_back a.ok.sub hp, _, upd_same, g2.cut⟩⟩
  · cases k5'
    obtain ⟨l, xs, rfl, g1, g2⟩ := op.tuple
    refine .inr (.inl ⟨l, xs, rfl, Evl.ex_t a.ok.sub g1, fun hw => ?_, fun _ p hp => ?_⟩)
    · have hw' := hw
      rw [g2.len] at hw'
      rw [cut_whole hw'] at go
      exact go _ V3 H3 (Al.refl a.ok.sub) (.tuple g1 g2)
    · have b : Al V3 H3 (upd V3 p (.tup (cutV xs o1 o2))) (upd H3 p (.tup (cutV xs o1 o2))) := Al.new a.ok.sub hp
      exact go _ _ _ b (.tuple (Evl.st_of upd_same) (RA.mono b.ex _ _ g2.cut))
  · split at k5'
    · rename_i hz
      cases k5'
      cases op.str
      exact .inr (.inr ⟨_, rfl, Evl.sz_of hz, go _ V3 H3 (Al.refl a.ok.sub) (.str _)⟩)
    · cases k5'
  · cases k5'
end
end DL

namespace DL
open PySem PySem.Spec PyProof.Rows L2
open Evl (Ex)

/-! ### built-ins by values -/
def cOr (r s : List L2.V → Hp → VK → Prop) : List L2.V → Hp → VK → Prop := fun vs H Q => r vs H Q ∨ s vs H Q
theorem callOr {X : Cx} {f : Value} {r s : List L2.V → Hp → VK → Prop} (h : CallR X f r) (k : CallR X f s) : CallR X f (cOr r s) := by
  intro pins st σ H vs us Q I rv q
  rcases q with q | q
  · exact h pins st σ H vs us Q I rv q
  · exact k pins st σ H vs us Q I rv q
def altC (g h : List D → Option Res) : List D → Option Res := fun ds => match g ds with
  | some r => some r
  | none => h ds
section
variable {K : PySem.W.Frag} {σ σ1 : L2.St} {env env1 env2 : Nv} {V H V1 H1 V2 H2 : Hp} {v : L2.V} {te ta tb : TE}
theorem callOkOr {r s : List L2.V → Hp → VK → Prop} {g h : List D → Option Res} (a : CallOk K r g) (b : CallOk K s h) : CallOk K (cOr r s) (altC g h) := by
  intro V H vs ds res sub hv hg Q q
  unfold altC at hg
  split at hg
  · rename_i r' hr
    cases hg
    exact .inl (a V H vs ds res sub hv hr Q q)
  · exact .inr (b V H vs ds res sub hv hg Q q)
theorem OpA.one {vs : List L2.V} {d : D} (h : OpA K V H vs [d]) : ∃ v, vs = [v] ∧ OpOk K V H v d := by
  cases h with
  | cons h1 h2 => cases h2; exact ⟨_, rfl, h1⟩
def lenD : D → Option Int
  | .str s => if s.length ≤ 100000 then some (s.length : Int) else none
  | .list ds => some (ds.length : Int)
  | .tuple ds => some (ds.length : Int)
  | _ => none
def c1 (g : D → Option Res) : List D → Option Res := fun ds => match ds with
  | [d] => g d
  | _ => none
def gLen : D → Option Res := fun d => (lenD d).map fun i => .val (.int i)
theorem call_len_ok : CallOk K (fun xs H Q => ∃ x n, xs = [x] ∧ LenV K x H n ∧ Q (.int n) H) (c1 gLen) := by
  intro V H vs ds res sub hv hg Q q
  unfold c1 at hg
  split at hg
  · obtain ⟨v, rfl, hx⟩ := hv.one
    simp only [gLen, Option.map_eq_some_iff] at hg
    obtain ⟨i, h1, rfl⟩ := hg
    rename_i d
    cases d with
    | str s =>
      simp only [lenD] at h1
      split at h1
      · rename_i hz
        cases h1
        cases hx.str
        exact ⟨_, _, rfl, ⟨Evl.sz_of hz, rfl⟩, q _ V H (Al.refl sub) (.int _)⟩
      · cases h1
    | list ds =>
      cases h1
      obtain ⟨a, xs, rfl, k1, k2⟩ := hx.list sub
      exact ⟨_, _, rfl, .inl ⟨xs, k1, rfl⟩, q _ V H (Al.refl sub) (by rw [k2.len]; exact .int _)⟩
    | tuple ds =>
      cases h1
      obtain ⟨a, xs, rfl, k1, k2⟩ := hx.tuple
      exact ⟨_, _, rfl, .inr ⟨xs, Evl.ex_t sub k1, rfl⟩, q _ V H (Al.refl sub) (by rw [k2.len]; exact .int _)⟩
    | _ => cases h1
  · cases hg
def gInt : D → Option Res
  | .int i => some (.val (.int i))
  | .bool b => some (.val (.int (if b then 1 else 0)))
  | _ => none
theorem call_int_ok : CallOk K (fun xs H Q => (∃ i, xs = [.int i] ∧ Q (.int i) H) ∨ ∃ k, xs = [.bl k] ∧ Q (.int (if k then 1 else 0)) H) (c1 gInt) := by
  intro V H vs ds res sub hv hg Q q
  unfold c1 at hg
  split at hg
  · obtain ⟨v, rfl, hx⟩ := hv.one
    unfold gInt at hg
    split at hg
    · cases hg
      cases hx.int
      exact .inl ⟨_, rfl, q _ V H (Al.refl sub) (.int _)⟩
    · cases hg
      cases hx.bool
      exact .inr ⟨_, rfl, q _ V H (Al.refl sub) (.int _)⟩
    · cases hg
  · cases hg
def gList : D → Option Res := fun d => (itemsD d).map fun ds => .new (.list ds)
theorem call_list_ok : CallOk K (fun xs H Q => ∃ p ys, xs = [.ref p] ∧ (SqL K H p ys ∨ SqT K H p ys) ∧ ∀ l, H l = none → Q (.ref l) (upd H l (.lst ys))) (c1 gList) := by
  intro V H vs ds res sub hv hg Q q
  unfold c1 at hg
  split at hg
  · obtain ⟨v, rfl, hx⟩ := hv.one
    simp only [gList, Option.map_eq_some_iff] at hg
    obtain ⟨es, h1, rfl⟩ := hg
    rename_i d
    have fin : ∀ (xs : List L2.V), RA K V xs es → ∀ l, H l = none → Q (.ref l) (upd H l (.lst xs)) := fun xs r l hl => q _ _ _ (Al.hid sub hl) ⟨l, rfl, hl, Evl.fresh_back sub hl, xs, upd_same, r⟩
    cases d with
    | list ds =>
      cases h1
      obtain ⟨a, xs, rfl, k1, k2⟩ := hx.list sub
      exact ⟨_, _, rfl, .inl k1, fin xs k2⟩
    | tuple ds =>
      cases h1
      obtain ⟨a, xs, rfl, k1, k2⟩ := hx.tuple
      exact ⟨_, _, rfl, .inr (Evl.ex_t sub k1), fin xs k2⟩
    | _ => cases h1
  · cases hg
def gTuple : D → Option Res := fun d => (itemsD d).map fun ds => .val (.tuple ds)
theorem call_tuple_ok : CallOk K (fun xs H Q => ∃ p ys, xs = [.ref p] ∧ ((SqL K H p ys ∧ ∀ l, H l = none → Q (.ref l) (upd H l (.tup ys))) ∨ (SqT K H p ys ∧ Q (.ref p) H))) (c1 gTuple) := by
  intro V H vs ds res sub hv hg Q q
  unfold c1 at hg
  split at hg
  · obtain ⟨v, rfl, hx⟩ := hv.one
    simp only [gTuple, Option.map_eq_some_iff] at hg
    obtain ⟨es, h1, rfl⟩ := hg
    rename_i d
    cases d with
    | list ds =>
      cases h1
      obtain ⟨a, xs, rfl, k1, k2⟩ := hx.list sub
      exact ⟨_, _, rfl, .inl ⟨k1, fun l hl => by
        have b : Al V H (upd V l (.tup xs)) (upd H l (.tup xs)) := Al.new sub hl
        exact q _ _ _ b (.tuple (Evl.st_of upd_same) (RA.mono b.ex _ _ k2))⟩⟩
    | tuple ds =>
      cases h1
      obtain ⟨a, xs, rfl, k1, k2⟩ := hx.tuple
      exact ⟨_, _, rfl, .inr ⟨Evl.ex_t sub k1, q _ V H (Al.refl sub) (.tuple k1 k2)⟩⟩
    | _ => cases h1
  · cases hg
def boolsOf : List D → Option (List Bool)
  | [] => some []
  | .bool i :: ds => (boolsOf ds).map (i :: ·)
  | _ :: _ => none
theorem boolsOf_eq : ∀ {ds : List D} {bs : List Bool}, boolsOf ds = some bs → ds = bs.map D.bool
  | [], bs, h => by cases h; rfl
  | d :: ds, bs, h => by
    cases d with
    | bool i =>
      simp only [boolsOf, Option.map_eq_some_iff] at h
      obtain ⟨ms, h1, rfl⟩ := h
      rw [boolsOf_eq h1]
      rfl
    | _ => cases h
theorem RA.ofBools : ∀ {bs : List Bool} {vs : List L2.V}, RA K H vs (bs.map D.bool) → vs = bs.map L2.V.bl
  | [], _, h => by cases h; rfl
  | n :: ns, _, h => by
    cases h with
    | cons h1 h2 =>
      cases h1
      rw [RA.ofBools h2]
      rfl
def gAll (all : Bool) : D → Option Res
  | .list ds => (boolsOf ds).map fun bs => .val (.bool (if all then bs.all id else bs.any id))
  | _ => none
theorem call_all_ok : CallOk K (rAll K) (c1 (gAll true)) := by
  intro V H vs ds res sub hv hg Q q
  unfold c1 at hg
  split at hg
  · obtain ⟨v, rfl, hx⟩ := hv.one
    unfold gAll at hg
    split at hg
    · simp only [Option.map_eq_some_iff] at hg
      obtain ⟨bs, h1, rfl⟩ := hg
      obtain ⟨a, xs, rfl, k1, k2⟩ := hx.list sub
      rw [boolsOf_eq h1] at k2
      rw [k2.ofBools] at k1
      exact ⟨a, bs, rfl, k1, q _ V H (Al.refl sub) (.bool _)⟩
    · cases hg
  · cases hg
theorem call_any_ok : CallOk K (rAny K) (c1 (gAll false)) := by
  intro V H vs ds res sub hv hg Q q
  unfold c1 at hg
  split at hg
  · obtain ⟨v, rfl, hx⟩ := hv.one
    unfold gAll at hg
    split at hg
    · simp only [Option.map_eq_some_iff] at hg
      obtain ⟨bs, h1, rfl⟩ := hg
      obtain ⟨a, xs, rfl, k1, k2⟩ := hx.list sub
      rw [boolsOf_eq h1] at k2
      rw [k2.ofBools] at k1
      exact ⟨a, bs, rfl, k1, q _ V H (Al.refl sub) (.bool _)⟩
    · cases hg
  · cases hg
def gSum : D → Option Res
  | .list ds => (intsOf ds).map fun ns => .val (.int ns.sum)
  | _ => none
theorem call_sum_ok : CallOk K (rSum K) (c1 gSum) := by
  intro V H vs ds res sub hv hg Q q
  unfold c1 at hg
  split at hg
  · obtain ⟨v, rfl, hx⟩ := hv.one
    unfold gSum at hg
    split at hg
    · simp only [Option.map_eq_some_iff] at hg
      obtain ⟨bs, h1, rfl⟩ := hg
      obtain ⟨a, xs, rfl, k1, k2⟩ := hx.list sub
      rw [intsOf_eq h1] at k2
      rw [k2.ofInts] at k1
      exact ⟨a, bs, rfl, k1, q _ V H (Al.refl sub) (.int _)⟩
    · cases hg
  · cases hg

/-! ### isinstance -/
def tyName : D → Option String
  | .none => some "NoneType"
  | .bool _ => some "bool"
  | .int _ => some "int"
  | .str _ => some "str"
  | .list _ => some "list"
  | .tuple _ => some "tuple"
  | .dictK _ _ => some "dict"
  | .dictT _ _ => some "dict"
  | .fn _ => none
theorem tyX_of {d : D} {T : String} (h : R K H v d) (e : tyName d = some T) : TyX K H v (.type T) := by
  cases h with
  | none => cases e; exact .base .non
  | bool b => cases e; exact .base (.bl b)
  | int i => cases e; exact .base (.int i)
  | str x => cases e; exact .base (.str x)
  | list hs ha =>
    cases e
    rcases hs with (hs | ⟨o, hs⟩) | ⟨o, its, n, h1, h2, _⟩
    · exact .base (.lst hs)
    · exact .base (.frz hs)
    · exact .kList h1 h2
  | tuple hs ha =>
    cases e
    rcases hs with (hs | ⟨o, hs⟩) | ⟨o, its, n, h1, h2, _⟩
    · exact .base (.tup hs)
    · exact .fTuple hs
    · exact .kTuple h1 h2
  | dictK hs _ _ => cases e; exact .base (.dK hs)
  | dictT hs _ _ => cases e; exact .base (.dT hs)
def isiD (T : String) (d : D) : Option Bool := (tyName d).bind fun S => kitB S T
def iIsi (T : String) (f : EvF) : EvF := fun env => (opd f env).bind fun p => (look p.2 p.1).bind fun d => (isiD T d).bind fun b => some (.val (.bool b), p.2)
theorem sd_isi {f : EvF} {T : String} (ha : Sd K te f) : Sd K (tCB (rIsi K) (tCons te (tCons (tC (.ty T)) tNil))) (iIsi T f) := by
  intro env res env' e σ V H ok Q q
  simp only [iIsi, Option.bind_eq_some_iff] at e
  obtain ⟨⟨ra, e1⟩, h1, d, h3, b, h5, h6⟩ := e
  cases h6
  refine opd_snd ha h1 ok fun x V1 H1 a k1 => ?_
  have op := (k1.look a.ok h3).seen a.ok.sub
  simp only [isiD, Option.bind_eq_some_iff] at h5
  obtain ⟨S, g1, g2⟩ := h5
  exact ⟨x, .ty T, .type S, .type T, b, rfl, .ty T, tyX_of op g1, kit_ty g2, q _ V1 H1 a (.bool b)⟩

/-! ### an owned container is changed -/
theorem adv_upd {i : Nat} {p : Bool} {d d' : D} {l : Addr} {o : HO} (a : Adv K σ env σ1 env1 V H V1 H1) (e : env1[i]? = some (.own p d)) (hl : σ1[i]? = some (some (.ref l))) (hc : OwnC K V1 (upd H1 l o) l d') :
    Adv K σ env σ1 (env1.set i (.own p d')) V H V1 (upd H1 l o) := by
  obtain ⟨l', g1, g2, g3⟩ := a.ok.ownC e
  rw [hl] at g1
  cases g1
  obtain ⟨u, hu⟩ := g3.there
  have hi := (List.getElem?_eq_some_iff.mp e).1
  have own1 : ∀ (j : Nat) (q : Bool) (f : D), (env1.set i (.own p d'))[j]? = some (.own q f) → ∃ f0, env1[j]? = some (.own q f0) := by
    intro j q f h1
    by_cases z : j = i
    · subst z
      rw [List.getElem?_set_self hi] at h1
      cases h1
      exact ⟨d, e⟩
    · rw [List.getElem?_set_ne (fun y => z y.symm)] at h1
      exact ⟨f, h1⟩
  have ol : Own env1 σ1 l := ⟨i, p, d, e, hl⟩
  refine ⟨⟨by rw [List.length_set]; exact a.ok.len, fun b x hb => ?_, fun j w s h1 h2 => ?_, fun j k q q' f f' m h1 h2 h3 h4 => ?_⟩, a.ex, a.fr, fun b x hb n => ?_, fun b hb => ?_, fun m h => ?_, fun m h => ?_, fun j f h => ?_⟩
  · have nb : b ≠ l := fun z => by rw [z, g2] at hb; cases hb
    rw [upd_ne nb]
    exact a.ok.sub b x hb
  · by_cases z : j = i
    · subst z
      rw [List.getElem?_set_self hi] at h2
      cases h2
      rw [hl] at h1
      cases h1
      exact ⟨l, rfl, g2, hc⟩
    · rw [List.getElem?_set_ne (fun y => z y.symm)] at h2
      have q := a.ok.slot j w s h1 h2
      cases s with
      | no => cases w <;> trivial
      | val f =>
        cases w with
        | none => exact q
        | some v => exact q
      | own q2 f =>
        cases w with
        | none => exact q
        | some v =>
          obtain ⟨m, rfl, k1, k2⟩ := q
          have nm : m ≠ l := fun y => by
            subst y
            exact z (a.ok.one j i q2 p f d m h2 e h1 hl)
          exact ⟨m, rfl, k1, k2.mono (Evl.Ex.refl _) (upd_ne nm)⟩
  · obtain ⟨f1, y1⟩ := own1 j q f h1
    obtain ⟨f2, y2⟩ := own1 k q' f' h2
    exact a.ok.one j k q q' f1 f2 m y1 y2 h3 h4
  · have k := a.keep b x hb n
    by_cases z : b = l
    · subst z
      rcases a.own b ol with y | y
      · exact absurd y n
      · rw [hb] at y; cases y
    · rw [upd_ne z]; exact k
  · by_cases z : b = l
    · subst z; rw [upd_same]; exact fun y => by cases y
    · rw [upd_ne z]; exact a.dom b hb
  · obtain ⟨j, q, f, h1, h2⟩ := h
    obtain ⟨f1, y1⟩ := own1 j q f h1
    exact a.own m ⟨j, q, f1, y1, h2⟩
  · obtain ⟨j, f, h1, h2⟩ := h
    obtain ⟨f1, y1⟩ := own1 j false f h1
    exact a.ownL m ⟨j, f1, y1, h2⟩
  · obtain ⟨⟨f1, h1⟩, h2⟩ := a.par j f h
    by_cases z : j = i
    · subst z
      rw [e] at h1
      cases h1
      rw [List.getElem?_set_self hi]
      exact ⟨⟨d', rfl⟩, h2⟩
    · rw [List.getElem?_set_ne (fun y => z y.symm)]
      exact ⟨⟨f1, h1⟩, h2⟩
/-- x.append(e) -/
def iApp (i : Nat) (f : EvF) : StF := fun env => match env[i]? with
  | some (.own _ (.list _)) => (opd f env).bind fun p => (vis p.1).bind fun d => match p.2[i]? with
    | some (.own q (.list ds)) => if ds.length < 100000 then some (.next (p.2.set i (.own q (.list (ds ++ [d]))))) else none
    | _ => none
  | _ => none
theorem sds_app {i : Nat} {f : EvF} (ha : Sd K te f) : SdS K (tDrop (tBM K "list" rAppend (tVar i) (tCons te tNil))) (iApp i f) := by
  intro env fl e σ V H ok E q
  unfold iApp at e
  split at e
  · rename_i p0 d0 he0
    simp only [Option.bind_eq_some_iff] at e
    obtain ⟨⟨r, e1⟩, h1, d, h2, h3⟩ := e
    split at h3
    · rename_i p ds he
      split at h3
      · rename_i hz
        cases h3
        obtain ⟨l0, g1, g2, g3⟩ := ok.ownC he0
        refine ⟨_, g1, ?_, ?_⟩
        · obtain ⟨xs, hx, _⟩ := g3
          exact .inl ⟨rfl, xs, Evl.sq_of hx⟩
        · refine opd_snd ha h1 ok fun v V1 H1 a k => ?_
          obtain ⟨l, y1, y2, xs, y3, y4⟩ := a.ok.ownC he
          rw [g1] at y1
          cases y1
          have rv : R K V1 v d := by
            cases r with
            | val d' => cases h2; exact k
            | new d' => exact k.elim
            | own j => cases h2
          exact ⟨_, xs, v, rfl, rfl, y3, Evl.sz_lt (by rw [y4.len]; exact hz), q σ V1 _ (adv_upd a he g1 ⟨xs ++ [v], upd_same, y4.append (.cons rv .nil)⟩)⟩
      · cases h3
    · cases h3
  · cases e
/-- x.pop() -/
def iPop (i : Nat) : EvF := fun env => match env[i]? with
  | some (.own q (.list ds)) => (ds[ds.length - 1]?).map fun d => (.val d, env.set i (.own q (.list ds.dropLast)))
  | _ => none
theorem RA.dropLast {xs : List L2.V} {ds : List D} (h : RA K V xs ds) : RA K V xs.dropLast ds.dropLast := by
  rw [List.dropLast_eq_take, List.dropLast_eq_take, h.len]
  exact h.take _
theorem sd_pop {i : Nat} : Sd K (tBM0 K "list" rPop (tVar i)) (iPop i) := by
  intro env res env' e σ V H ok Q q
  unfold iPop at e
  split at e
  · rename_i p ds he
    simp only [Option.map_eq_some_iff] at e
    obtain ⟨d, h1, h2⟩ := e
    cases h2
    obtain ⟨l, y1, y2, xs, y3, y4⟩ := ok.ownC he
    refine ⟨_, y1, .inl ⟨rfl, xs, Evl.sq_of y3⟩, ?_⟩
    obtain ⟨z, h2, h3⟩ := y4.get h1
    rw [← y4.len] at h2
    exact ⟨l, xs, z, rfl, rfl, y3, h2, q z V _ (adv_upd (Adv.refl ok) he y1 ⟨xs.dropLast, upd_same, y4.dropLast⟩) h3⟩
  · cases e
/-- x.extend(e), e a list -/
def iExt (i : Nat) (f : EvF) : StF := fun env => match env[i]? with
  | some (.own _ (.list _)) => (f env).bind fun p => match p.1 with
    | .new (.list es) => match p.2[i]? with
      | some (.own q (.list ds)) => if ds.length + es.length ≤ 100000 then some (.next (p.2.set i (.own q (.list (ds ++ es))))) else none
      | _ => none
    | _ => none
  | _ => none
theorem sds_ext {i : Nat} {f : EvF} (ha : Sd K te f) : SdS K (tDrop (tBM K "list" rExtend (tVar i) (tCons te tNil))) (iExt i f) := by
  intro env fl e σ V H ok E q
  unfold iExt at e
  split at e
  · rename_i p0 d0 he0
    simp only [Option.bind_eq_some_iff] at e
    obtain ⟨⟨r, e1⟩, h1, h2⟩ := e
    split at h2
    · rename_i es hr
      have hr' : r = .new (.list es) := hr
      subst hr'
      split at h2
      · rename_i p ds he
        split at h2
        · rename_i hz
          cases h2
          obtain ⟨l0, g1, g2, g3⟩ := ok.ownC he0
          refine ⟨_, g1, ?_, ?_⟩
          · obtain ⟨xs, hx, _⟩ := g3
            exact .inl ⟨rfl, xs, Evl.sq_of hx⟩
          · refine ha _ _ _ h1 σ V H ok _ fun v V1 H1 a k => ?_
            obtain ⟨l, y1, y2, xs, y3, y4⟩ := a.ok.ownC he
            rw [g1] at y1
            cases y1
            obtain ⟨b, rfl, w1, w2, w3, zs, w4, w5⟩ := k
            exact ⟨_, b, xs, zs, rfl, rfl, y3, w4, Evl.sz_of (by rw [y4.len, w5.len]; exact hz), q σ V1 _ (adv_upd a he g1 ⟨xs ++ zs, upd_same, y4.append w5⟩)⟩
        · cases h2
      · cases h2
    · cases h2
  · cases e
/-- x becomes visible: nothing happens -/
def iFrz (i : Nat) : StF := fun env => match env[i]? with
  | some (.own false d) => some (.next (env.set i (.val d)))
  | some (.val _) => some (.next env)
  | _ => none
theorem adv_frz {i : Nat} {d : D} (a : Adv K σ env σ1 env1 V H V1 H1) (e : env1[i]? = some (.own false d)) : ∃ V2, Adv K σ env σ1 (env1.set i (.val d)) V H V2 H1 := by
  obtain ⟨l, g1, g2, g3⟩ := a.ok.ownC e
  have hi := (List.getElem?_eq_some_iff.mp e).1
  have a2 := adv_no a e fun d z => by cases z
  have nO : ¬ Own (env1.set i .no) σ1 l := by
    rintro ⟨j, p, d', z1, z2⟩
    by_cases qj : j = i
    · subst qj
      rw [List.getElem?_set_self hi] at z1
      cases z1
    · rw [List.getElem?_set_ne (fun z => qj z.symm)] at z1
      exact qj (a.ok.one j i p false d' d l z1 e z2 g1)
  obtain ⟨V2, a3, r⟩ := a2.show ((a.ownL l ⟨i, d, e, g1⟩).elim .inr .inl) g2 nO g3
  refine ⟨V2, ?_⟩
  have hs : σ1.set i (some (.ref l)) = σ1 := by
    apply List.ext_getElem?
    intro j
    by_cases qj : j = i
    · subst qj
      rw [List.getElem?_set_self (by rw [a.ok.len]; exact hi), g1]
    · rw [List.getElem?_set_ne (fun z => qj z.symm)]
  have a4 := adv_set (i := i) (s := .val d) (env2 := (env1.set i .no).set i (.val d)) a3 (by
    unfold setV
    rw [List.getElem?_set_self hi]) (show SlOk K V2 H1 (some (.ref l)) (.val d) from r) fun p d' l z => by cases z
  rw [hs, List.set_set] at a4
  exact a4
theorem sds_frz {i : Nat} {t : TS} {g : StF} (h : SdS K t g) : SdS K t (iSeq (iFrz i) g) := by
  intro env fl e σ V H ok E q
  unfold iSeq at e
  cases hf : iFrz i env with
  | none => rw [hf] at e; cases e
  | some f0 =>
    rw [hf] at e
    unfold iFrz at hf
    split at hf
    · rename_i d hd
      cases hf
      obtain ⟨V2, a⟩ := adv_frz (Adv.refl ok) hd
      exact h _ _ e σ V2 H a.ok E (q.of a)
    · cases hf
      exact h _ _ e σ V H ok E q
    · cases hf
end
end DL

namespace DL
open PySem PySem.Spec PyProof.Rows L2
open Evl (Ex)

/-! ### a walk over a list or a tuple -/
theorem pi_sq {X : Cx} {tg l : Expr} {tl : TE} (hl : PE X l tl) : PI X tg l (iSq X.K tl) := by
  constructor
  intro pins s σ H R I h
  apply thn (hl.run pins s σ H _ I h)
  rintro v s1 ⟨x, H1, I1, r1, a, rfl, q⟩
  cases r1
  have ev : ∀ (it : Obj) (b : Addr) (o : Obj), s1.heap.get? b = some o → (s1.heap.push it).get? b = some o := fun it b o e => Heap.get?_push_of_some _ e
  have one : ∀ (b : Addr), b ∈ [s1.heap.objs.size] → FpOk X pins H1 b := by
    intro b hb
    have hb' : b = s1.heap.objs.size := by simpa using hb
    rw [hb']
    exact I1.fpOk (Nat.le_refl _) (I1.hok.fresh (Nat.le_refl _))
  rcases q with ⟨⟨xs, hx⟩, q⟩ | ⟨⟨xs, hx⟩, q⟩
  · obtain ⟨its, _, pl, _⟩ := I1.list hx
    apply wpAny_pyIter_list pl.isList
    exact ⟨s1.heap.objs.size, [s1.heap.objs.size], _, _, H1, rfl, I1.kept (t' := s1.toks) (ev _),
      turn_list a _, ⟨_, Heap.get?_push_size _ rfl, rfl, rfl⟩, one, q⟩
  · obtain ⟨its, _, pl, _⟩ := I1.tuple hx
    apply wpAny_pyIter_tuple (show s1.heap.IsTuple a its.toArray from pl)
    exact ⟨s1.heap.objs.size, [s1.heap.objs.size], _, _, H1, rfl, I1.kept (t' := s1.toks) (ev _),
      turn_tuple a _, ⟨_, Heap.get?_push_size _ rfl, rfl, rfl⟩, one, q⟩

section
variable {K : PySem.W.Frag} {σ σ1 : L2.St} {env env1 env2 : Nv} {V H V1 H1 V2 H2 : Hp} {v : L2.V} {te ta tb : TE}
/-! ### comprehensions -/
def wipeN (env : Nv) : List Nat → Option Nv
  | [] => some env
  | v :: vs => (wipeN env vs).bind fun e => match e[v]? with
    | some (.own true _) => none
    | some _ => some (e.set v .no)
    | none => none
theorem adv_none {i : Nat} (a : Adv K σ env σ1 env1 V H V1 H1) (e : env1[i]? = some .no) : Adv K σ env (σ1.set i none) env1 V H V1 H1 := by
  have ow : ∀ (j : Nat) (p : Bool) (d : D) (l : Addr), env1[j]? = some (.own p d) → (σ1.set i none)[j]? = some (some (.ref l)) → σ1[j]? = some (some (.ref l)) := by
    intro j p d l h1 h2
    by_cases q : j = i
    · subst q; rw [e] at h1; cases h1
    · rw [List.getElem?_set_ne (fun z => q z.symm)] at h2; exact h2
  refine ⟨⟨by rw [List.length_set]; exact a.ok.len, a.ok.sub, fun j o s h1 h2 => ?_, fun j k p q d d' l h1 h2 h3 h4 => a.ok.one j k p q d d' l h1 h2 (ow j p d l h1 h3) (ow k q d' l h2 h4)⟩, a.ex, a.fr, a.keep, a.dom, fun l h => ?_, fun l h => ?_, fun j d h => ?_⟩
  · by_cases q : j = i
    · subst q
      rw [e] at h2
      cases h2
      cases o <;> trivial
    · rw [List.getElem?_set_ne (fun z => q z.symm)] at h1
      exact a.ok.slot j o s h1 h2
  · obtain ⟨j, p, d, h1, h2⟩ := h
    exact a.own l ⟨j, p, d, h1, ow j p d l h1 h2⟩
  · obtain ⟨j, d, h1, h2⟩ := h
    exact a.ownL l ⟨j, d, h1, ow j false d l h1 h2⟩
  · obtain ⟨⟨d', h1⟩, h2⟩ := a.par j d h
    have q : j ≠ i := fun z => by subst z; rw [e] at h1; cases h1
    rw [List.getElem?_set_ne (fun z => q z.symm)]
    exact ⟨⟨d', h1⟩, h2⟩
/-- the slots' values are forgotten where nothing is said of them -/
theorem adv_wipe : ∀ {vs : List Nat} {env2 : Nv}, Adv K σ env σ1 env1 V H V1 H1 → wipeN env1 vs = some env2 → Adv K σ env (wipe σ1 vs) env2 V H V1 H1 ∧ Adv K σ env σ1 env2 V H V1 H1
  | [], env2, a, e => by cases e; exact ⟨a, a⟩
  | v :: vs, env2, a, e => by
    simp only [wipeN, Option.bind_eq_some_iff] at e
    obtain ⟨e1, h1, h2⟩ := e
    obtain ⟨b, b'⟩ := adv_wipe a h1
    split at h2
    · cases h2
    · rename_i s hne hs
      cases h2
      have hv := (List.getElem?_eq_some_iff.mp hs).1
      have n : ∀ d, s ≠ .own true d := fun d z => by subst z; exact hne d rfl
      exact ⟨adv_none (adv_no b hs n) (List.getElem?_set_self hv), adv_no b' hs n⟩
    · cases h2
def lcLoop (g : TgF) (c : EvT) (f : EvF) (vs : List Nat) : List D → Nv → List D → Option (List D × Nv)
  | [], env, acc => some (acc, env)
  | d :: ds, env, acc => (g env d).bind fun e1 => (c e1).bind fun p => if p.1 = true then
      (opd f p.2).bind fun q => (vis q.1).bind fun y => (wipeN q.2 vs).bind fun e3 => if acc.length < 100000 then lcLoop g c f vs ds e3 (acc ++ [y]) else none
    else (wipeN p.2 vs).bind fun e3 => lcLoop g c f vs ds e3 acc
def iLc (it : ItF) (g : TgF) (c : EvT) (f : EvF) (vs : List Nat) : EvF := fun env => (it env).bind fun p => (wipeN p.2 vs).bind fun e1 => (lcLoop g c f vs p.1 e1 []).bind fun q => some (.new (.list q.1), q.2)
/-- the slots in vs alone have changed -/
def SdGv (K : PySem.W.Frag) (t : TG) (g : TgF) (vs : List Nat) : Prop := ∀ env d env', g env d = some env' → ∀ (σ : L2.St) (V H : Hp) (v : L2.V), NvOk K V H σ env → R K V v d →
  ∀ Q : L2.St → Hp → Prop, (∀ σ', Adv K σ env σ' env' V H V H → wipe σ' vs = wipe σ vs → Q σ' H) → t v σ H Q
theorem wipe_set {σ : L2.St} {i : Nat} {x : Option L2.V} : ∀ {vs : List Nat}, i ∈ vs → wipe (σ.set i x) vs = wipe σ vs := by
  have comm : ∀ {τ : L2.St} {a b : Nat} {u w : Option L2.V}, a ≠ b → (τ.set a u).set b w = (τ.set b w).set a u := fun h => List.set_comm _ _ h
  have out : ∀ {vs : List Nat} {τ : L2.St}, i ∉ vs → wipe (τ.set i x) vs = (wipe τ vs).set i x := by
    intro vs
    induction vs with
    | nil => intro τ _; rfl
    | cons v vs ih =>
      intro τ h
      show (wipe (τ.set i x) vs).set v none = ((wipe τ vs).set v none).set i x
      rw [ih (fun z => h (List.mem_cons_of_mem _ z)), List.set_comm _ _ (fun z => h (by rw [z]; exact List.mem_cons_self))]
  intro vs
  induction vs with
  | nil => intro h; cases h
  | cons v vs ih =>
    intro h
    show (wipe (σ.set i x) vs).set v none = (wipe σ vs).set v none
    by_cases q : i ∈ vs
    · rw [ih q]
    · have e : i = v := (List.mem_cons.mp h).elim id fun z => absurd z q
      subst e
      rw [out q, List.set_set]
theorem wipe_wipe {σ : L2.St} : ∀ {vs : List Nat}, wipe (wipe σ vs) vs = wipe σ vs := by
  have gen : ∀ (ws vs : List Nat) (τ : L2.St), (∀ w ∈ ws, w ∈ vs) → wipe (wipe τ ws) vs = wipe τ vs := by
    intro ws
    induction ws with
    | nil => intro vs τ _; rfl
    | cons w ws ih =>
      intro vs τ h
      show wipe ((wipe τ ws).set w none) vs = wipe τ vs
      rw [wipe_set (h w List.mem_cons_self), ih vs τ fun z hz => h z (List.mem_cons_of_mem _ hz)]
  intro vs
  exact gen vs vs σ fun _ h => h
theorem sdgv_name {i : Nat} {vs : List Nat} (h : i ∈ vs) : SdGv K (gName i) (iNm i) vs := by
  intro env d env' e σ V H v ok r Q q
  exact q _ (adv_set (Adv.refl ok) e r fun p d l z => by cases z) (wipe_set h)
def SdGsv (K : PySem.W.Frag) (t : TGs) (g : TgsF) (vs : List Nat) : Prop := ∀ env ds env', g env ds = some env' → ∀ (σ : L2.St) (V H : Hp) (xs : List L2.V), NvOk K V H σ env → RA K V xs ds →
  ∀ Q : L2.St → Hp → Prop, (∀ σ', Adv K σ env σ' env' V H V H → wipe σ' vs = wipe σ vs → Q σ' H) → t xs σ H Q
theorem sdgsv_nil {vs : List Nat} : SdGsv K gNil iGN vs := by
  intro env ds env' e σ V H xs ok r Q q
  cases r with
  | nil => cases e; exact ⟨rfl, q σ (Adv.refl ok) rfl⟩
  | cons _ _ => cases e
theorem sdgsv_cons {t : TG} {ts : TGs} {g : TgF} {gs : TgsF} {vs : List Nat} (h1 : SdGv K t g vs) (h2 : SdGsv K ts gs vs) : SdGsv K (gCons t ts) (iGC g gs) vs := by
  intro env ds env' e σ V H xs ok r Q q
  cases r with
  | nil => cases e
  | @cons v xs d ds ra rb =>
    simp only [iGC, Option.bind_eq_some_iff] at e
    obtain ⟨e1, k1, k2⟩ := e
    exact ⟨v, xs, rfl, h1 _ _ _ k1 σ V H v ok ra _ fun σ' a w => h2 _ _ _ k2 σ' V H xs a.ok rb Q fun σ2 a2 w2 => q σ2 (a.trans a2) (w2.trans w)⟩
theorem sdgv_tup {ts : TGs} {gs : TgsF} {n : Nat} {vs : List Nat} (h : SdGsv K ts gs vs) : SdGv K (gBoth K n ts) (iGT gs n) vs := by
  intro env d env' e σ V H v ok r Q q
  cases d with
  | tuple ds =>
    simp only [iGT] at e
    split at e
    · rename_i hn
      cases r with
      | @tuple a xs _ hs ha => exact .inl ⟨a, xs, rfl, Evl.ex_t ok.sub hs, by rw [ha.len]; exact hn, h _ _ _ e σ V H xs ok ha Q q⟩
    · cases e
  | list ds =>
    simp only [iGT] at e
    split at e
    · rename_i hn
      cases r with
      | @list a xs _ hs ha => exact .inr ⟨a, xs, rfl, Evl.ex_l ok.sub hs, by rw [ha.len]; exact hn, h _ _ _ e σ V H xs ok ha Q q⟩
    · cases e
  | _ => cases e
/-- the new list of a comprehension grows -/
theorem adv_grow {Dl : Addr} {o : HO} (a : Adv K σ env σ1 env1 V H V1 H1) (h0 : H Dl = none) (hv : V1 Dl = none) (hn : ¬ Own env1 σ1 Dl) : Adv K σ env σ1 env1 V H V1 (upd H1 Dl o) := by
  refine ⟨⟨a.ok.len, fun b x hb => ?_, fun j w s h1 h2 => ?_, a.ok.one⟩, a.ex, a.fr, fun b x hb n => ?_, fun b hb => ?_, a.own, a.ownL, a.par⟩
  · have nb : b ≠ Dl := fun z => by rw [z, hv] at hb; cases hb
    rw [upd_ne nb]
    exact a.ok.sub b x hb
  · have q := a.ok.slot j w s h1 h2
    cases s with
    | no => cases w <;> trivial
    | val f => cases w <;> exact q
    | own p f =>
      cases w with
      | none => exact q
      | some x =>
        obtain ⟨m, rfl, k1, k2⟩ := q
        have nm : m ≠ Dl := fun y => by subst y; exact hn ⟨j, p, f, h2, h1⟩
        exact ⟨m, rfl, k1, k2.mono (Evl.Ex.refl _) (upd_ne nm)⟩
  · have nb : b ≠ Dl := fun z => by rw [z, h0] at hb; cases hb
    rw [upd_ne nb]
    exact a.keep b x hb n
  · by_cases z : b = Dl
    · subst z; exact absurd h0 hb
    · rw [upd_ne z]; exact a.dom b hb
theorem adv_hid {Dl : Addr} {o : HO} (a : Adv K σ1 env1 σ1 env2 V1 H1 V2 H2) (h0 : H1 Dl = some o) (hv : V1 Dl = none) (hn : ¬ Own env1 σ1 Dl) : H2 Dl = some o ∧ V2 Dl = none := by
  refine ⟨a.keep Dl o h0 hn, ?_⟩
  cases y : V2 Dl with
  | none => rfl
  | some o2 =>
    rcases a.fr Dl (by rw [y]; exact fun z => by cases z) with m | m | m
    · exact absurd hv m
    · rw [h0] at m; cases m
    · exact absurd m.own hn
theorem wipe_out {j : Nat} : ∀ {vs : List Nat}, j ∉ vs → (wipe σ vs)[j]? = σ[j]?
  | [], _ => rfl
  | v :: vs, h => by
    show ((wipe σ vs).set v none)[j]? = σ[j]?
    rw [List.getElem?_set_ne (fun z => h (by rw [z]; exact List.mem_cons_self)), wipe_out fun z => h (List.mem_cons_of_mem _ z)]
theorem wipeN_clean : ∀ {vs : List Nat} {e : Nv}, wipeN env vs = some e → ∀ j, j ∈ vs → e[j]? = some .no
  | [], _, _, _, h => by cases h
  | v :: vs, e, h, j, hj => by
    simp only [wipeN, Option.bind_eq_some_iff] at h
    obtain ⟨e1, h1, h2⟩ := h
    split at h2
    · cases h2
    · rename_i s hne hs
      cases h2
      have hv := (List.getElem?_eq_some_iff.mp hs).1
      by_cases q : j = v
      · subst q
        exact List.getElem?_set_self hv
      · rw [List.getElem?_set_ne (fun z => q z.symm)]
        exact wipeN_clean h1 j ((List.mem_cons.mp hj).elim (fun z => absurd z q) id)
    · cases h2
theorem own_orig {vs : List Nat} {e : Nv} {l : Addr} (cl : ∀ j, j ∈ vs → e[j]? = some .no) (h : Own e σ l) : Own e (wipe σ vs) l := by
  obtain ⟨j, p, d, z1, z2⟩ := h
  have hj : j ∉ vs := fun w => by rw [cl j w] at z1; cases z1
  exact ⟨j, p, d, z1, by rw [wipe_out hj]; exact z2⟩
theorem adv_orig {vs : List Nat} {e : Nv} (a : Adv K σ env (wipe σ vs) e V H V1 H1) (cl : ∀ j, j ∈ vs → e[j]? = some .no) : Adv K σ env σ e V H V1 H1 := by
  have ow : ∀ (j : Nat) (p : Bool) (d : D), e[j]? = some (.own p d) → (wipe σ vs)[j]? = σ[j]? := fun j p d h => wipe_out fun w => by rw [cl j w] at h; cases h
  refine ⟨⟨by rw [← wipe_length σ vs]; exact a.ok.len, a.ok.sub, fun j o s h1 h2 => ?_, fun j k p q d d' l h1 h2 h3 h4 => a.ok.one j k p q d d' l h1 h2 (by rw [ow j p d h1]; exact h3) (by rw [ow k q d' h2]; exact h4)⟩, a.ex, a.fr, a.keep, a.dom, fun l h => a.own l (own_orig cl h), fun l h => ?_, fun j d h => ⟨(a.par j d h).1, rfl⟩⟩
  · by_cases q : j ∈ vs
    · rw [cl j q] at h2
      cases h2
      cases o <;> trivial
    · exact a.ok.slot j o s (by rw [wipe_out q]; exact h1) h2
  · obtain ⟨j, d, z1, z2⟩ := h
    exact a.ownL l ⟨j, d, z1, by rw [ow j false d z1]; exact z2⟩
theorem sd_lc {wi : TI} {it : ItF} {tg : TG} {g : TgF} {tt : TT} {c : EvT} {f : EvF} {vs : List Nat} (hi : SdI K wi it) (hg : SdGv K tg g vs) (hc : SdT K tt c) (hf : Sd K te f) : Sd K (tLc wi tg tt te vs) (iLc it g c f vs) := by
  intro env res env' e σ V H ok Q q
  simp only [iLc, Option.bind_eq_some_iff] at e
  obtain ⟨⟨ds, e0⟩, h1, e1, h2, ⟨out, e2⟩, h3, h4⟩ := e
  cases h4
  refine hi _ _ _ h1 σ V H ok _ fun J V' H' a mk Dl hD => ?_
  obtain ⟨aw, as⟩ := adv_wipe a h2
  have vD : V' Dl = none := Evl.fresh_back a.ok.sub hD
  have hD0 : H Dl = none := by
    cases y : H Dl with
    | none => rfl
    | some o => exact absurd hD (a.dom Dl (by rw [y]; exact fun z => by cases z))
  -- a state of the comprehension: σ stands, the block's slots are wiped
  refine mk.2 tg tt te vs Dl (fun i V1 H1 => ∃ env1 acc xs, Adv K σ env (wipe σ vs) env1 V H V1 H1 ∧ Adv K σ env σ env1 V H V1 H1 ∧ Ex V' V1 ∧ V1 Dl = none ∧ ¬ Own env1 (wipe σ vs) Dl ∧ H1 Dl = some (.lst xs) ∧ RA K V1 xs acc ∧ (∀ j, j ∈ vs → env1[j]? = some .no) ∧ lcLoop g c f vs (ds.drop i) env1 acc = some (out, e2)) _ ?_ ?_ ?_ ?_
  · have nO : ¬ Own e1 (wipe σ vs) Dl := aw.ok.notOwn hD
    have nO2 : ¬ Own e1 σ Dl := as.ok.notOwn hD
    exact ⟨e1, [], [], adv_grow aw hD0 vD nO, adv_grow as hD0 vD nO2, Evl.Ex.refl _, vD, nO, upd_same, .nil, wipeN_clean h2, h3⟩
  · rintro i V1 H1 ⟨env1, acc, xs, b, b', x, _⟩
    exact ⟨x, b.ok.sub⟩
  · rintro i d V1 H1 hd ⟨env1, acc, xs, b, b', x1, d1, d2, d3, d4, d5, hl⟩ x V2 H2 al r
    have e0' : ds.drop i = d :: ds.drop (i + 1) := by
      obtain ⟨hlt, rfl⟩ := List.getElem?_eq_some_iff.mp hd
      exact List.drop_eq_getElem_cons hlt
    rw [e0'] at hl
    simp only [lcLoop, Option.bind_eq_some_iff] at hl
    obtain ⟨e3, g1, ⟨bb, e4⟩, g2, g3⟩ := hl
    have b2 := al.adv b.ok
    refine hg _ _ _ g1 (wipe σ vs) V2 H2 x b2.ok r _ fun σ3 a3 w3 => ⟨by rw [w3, wipe_wipe], ?_⟩
    refine hc _ _ _ g2 σ3 V2 H2 a3.ok _ fun V4 H4 a4 => ?_
    have a5 := (b2.trans a3).trans a4
    -- behind the turn: the slots wiped again, or as they stood ahead
    have back : ∀ (V5 H5 : Hp) (e5 e6 : Nv), Adv K (wipe σ vs) env1 σ3 e5 V1 H1 V5 H5 → wipeN e5 vs = some e6 → Adv K (wipe σ vs) env1 (wipe σ vs) e6 V1 H1 V5 H5 := by
      intro V5 H5 e5 e6 a6 hw
      have a7 := (adv_wipe a6 hw).1
      rw [w3, wipe_wipe] at a7
      exact a7
    cases bb with
    | true =>
      rw [if_pos rfl]
      rw [if_pos rfl] at g3
      simp only [Option.bind_eq_some_iff] at g3
      obtain ⟨⟨rr, e5⟩, g4, y, g5, e6, g6, g7⟩ := g3
      split at g7
      · rename_i hz
        refine opd_snd hf g4 a4.ok fun z V5 H5 a6 k => ?_
        have a7 := a5.trans a6
        have a8 := back V5 H5 e5 e6 a7 g6
        obtain ⟨y1, y2⟩ := adv_hid a8 d3 d1 d2
        have rz : R K V5 z y := by
          cases rr with
          | val d' => cases g5; exact k
          | new d' => exact k.elim
          | own j => cases g5
        have a9 := b.trans a8
        have nO : ¬ Own e6 (wipe σ vs) Dl := fun w => by
          rcases a8.own Dl w with m | m
          · exact d2 m
          · rw [d3] at m; cases m
        have clean := wipeN_clean g6
        have a10 : Adv K σ env σ e6 V H V5 H5 := adv_orig a9 clean
        refine ⟨xs, y1, Evl.sz_lt (by rw [d4.len]; exact hz), V5, e6, acc ++ [y], xs ++ [z], adv_grow a9 hD0 y2 nO, adv_grow a10 hD0 y2 ?_, x1.trans a8.ex, y2, nO, upd_same, (RA.mono a8.ex _ _ d4).append (.cons rz .nil), clean, g7⟩
        exact fun w => nO (own_orig clean w)
      · cases g7
    | false =>
      rw [if_neg Bool.false_ne_true]
      rw [if_neg Bool.false_ne_true] at g3
      simp only [Option.bind_eq_some_iff] at g3
      obtain ⟨e6, g6, g7⟩ := g3
      have a8 := back V4 H4 e4 e6 a5 g6
      obtain ⟨y1, y2⟩ := adv_hid a8 d3 d1 d2
      have a9 := b.trans a8
      have nO : ¬ Own e6 (wipe σ vs) Dl := fun w => by
        rcases a8.own Dl w with m | m
        · exact d2 m
        · rw [d3] at m; cases m
      have clean := wipeN_clean g6
      exact ⟨V4, e6, acc, xs, a9, adv_orig a9 clean, x1.trans a8.ex, y2, nO, y1, RA.mono a8.ex _ _ d4, clean, g7⟩
  · rintro V1 H1 ⟨env1, acc, xs, b, b', x, d1, d2, d3, d4, d5, hl⟩
    rw [List.drop_length] at hl
    cases hl
    exact q _ V1 H1 b' ⟨Dl, rfl, .inl hD0, d1, fun w => d2 (own_orig d5 w), xs, d3, d4⟩
end
end DL

namespace DL
open PySem PySem.Spec PyProof.Rows L2
open Evl (Ex)

theorem hu64 {A : Around} {k : Nat} (hr : Room k A) : A.units + 64 < cLine := by have := hr.un; omega
theorem hu0 {A : Around} {k : Nat} (hr : Room k A) : A.units < cLine := by have := hr.un; omega
section
variable {X : Cx} {k : Nat} {a b e l : Expr} {es : List Expr} {pos p p2 : Pos} {fa fb f : EvF} {fs : EvA}
/-! ### expressions -/
theorem pdVar (i : Nat) {x : Str} (hN : X.N[i]? = some x := by rfl) (hv : Vis X.env.scope x := by first | exact Or.inl rfl | exact Or.inr (Or.inl rfl) | exact Or.inr (Or.inr rfl)) (hd : (x == ("__debug__" : Str)) = false := by decide)
    (hcd : (x == ("__classdict__" : Str)) = false := by decide) : PD X (.Name x pos) (iVar i) := ⟨_, pe_var hN hv hd hcd, sd_var i⟩
theorem pdInt {i : Int} {j : Nat} : PD X (.Constant (.int i) j pos) (iCon (.int i)) := ⟨_, pe_int, sd_con (.int i)⟩
theorem pdBool {i : Bool} {j : Nat} : PD X (.Constant (.bool i) j pos) (iCon (.bool i)) := ⟨_, pe_bl, sd_con (.bool i)⟩
theorem pdNone {j : Nat} : PD X (.Constant .none j pos) (iCon .none) := ⟨_, pe_non, sd_con .none⟩
theorem pdStr {s : Str} {j : Nat} : PD X (.Constant (.str s) j pos) (iCon (.str s)) := ⟨_, pe_str, sd_con (.str s)⟩
theorem pdGlob {x : Str} {u : Value} {v : L2.V} {d : D} (hg : Gl X x) (hm : X.mg x = some u) (r : RelV v u) (h : R X.K (fun _ => none) v d) (hd : (x == ("__debug__" : Str)) = false := by decide) : PD X (.Name x pos) (iCon d) := ⟨_, pe_glob hg hm r hd, sd_con h⟩
theorem pdBin {op : Operator} {r : R2} {g : D → D → Option Res} (ho : OpR X (binaryOp op) r) (hB : BinOk X.K r g) (ha : PD X a fa) (hb : PD X b fb) : PD X (.BinOp a op b pos) (iBin g fa fb) :=
  let ⟨_, h1, k1⟩ := ha; let ⟨_, h2, k2⟩ := hb; ⟨_, pe_op ho h1 h2, sd_bin hB k1 k2⟩
def gAdd : D → D → Option Res := alt (oI fun i j => some (.int (i + j))) (alt gAddS gCatT)
theorem pdAdd (ha : PD X a fa) (hb : PD X b fb) : PD X (.BinOp a .Add b pos) (iBin gAdd fa fb) :=
  pdBin (opOr op_add (opOr op_add_str op_catA)) (binOr (bin_I0 fun _ _ _ => .int _) (binOr bin_addS bin_catT)) ha hb
def gSub : D → D → Option Res := oI fun i j => some (.int (i - j))
theorem pdSub (ha : PD X a fa) (hb : PD X b fb) : PD X (.BinOp a .Sub b pos) (iBin gSub fa fb) := pdBin op_sub (bin_I0 fun _ _ _ => .int _) ha hb
def mulC (i j : Int) : Bool := (decide (-(2 ^ 64) < i) && decide (i < 2 ^ 64)) || (decide (-(2 ^ 64) < j) && decide (j < 2 ^ 64))
def gMul : D → D → Option Res := oI fun i j => if mulC i j = true then some (.int (i * j)) else none
theorem pdMul (ha : PD X a fa) (hb : PD X b fb) : PD X (.BinOp a .Mult b pos) (iBin gMul fa fb) :=
  pdBin op_mul (bin_I (c := mulC) (fun i j h => by
    simp only [mulC, Bool.or_eq_true, Bool.and_eq_true, decide_eq_true_eq] at h
    exact h) fun _ _ _ => .int _) ha hb
def sm (j : Int) : Bool := decide (-(2 ^ 64) < j) && decide (j < 2 ^ 64)
def gMulR : D → D → Option Res := oI fun i j => if sm j = true then some (.int (i * j)) else none
def gMulL : D → D → Option Res := oI fun i j => if sm i = true then some (.int (i * j)) else none
theorem pdMulR (ha : PD X a fa) (hb : PD X b fb) : PD X (.BinOp a .Mult b pos) (iBin gMulR fa fb) :=
  pdBin op_mul (bin_I (c := fun _ j => sm j) (fun i j h => by
    simp only [sm, Bool.and_eq_true, decide_eq_true_eq] at h
    exact .inr h) fun _ _ _ => .int _) ha hb
theorem pdMulL (ha : PD X a fa) (hb : PD X b fb) : PD X (.BinOp a .Mult b pos) (iBin gMulL fa fb) :=
  pdBin op_mul (bin_I (c := fun i _ => sm i) (fun i j h => by
    simp only [sm, Bool.and_eq_true, decide_eq_true_eq] at h
    exact .inl h) fun _ _ _ => .int _) ha hb
def gDiv : D → D → Option Res := oI fun i j => if (decide (0 < j) && decide (j < 2 ^ 64)) = true then some (.int (i / j)) else none
theorem pdDiv (ha : PD X a fa) (hb : PD X b fb) : PD X (.BinOp a .FloorDiv b pos) (iBin gDiv fa fb) :=
  pdBin op_fdivW (bin_I (c := fun _ j => decide (0 < j) && decide (j < 2 ^ 64)) (fun i j h => by
    simp only [Bool.and_eq_true, decide_eq_true_eq] at h
    exact wide_div (b := 64) h.1 (by omega) (by decide) (by decide)) fun _ _ _ => .int _) ha hb
def gMod : D → D → Option Res := oI fun i j => if decide (0 < j) = true then some (.int (i % j)) else none
theorem pdMod (ha : PD X a fa) (hb : PD X b fb) : PD X (.BinOp a .Mod b pos) (iBin gMod fa fb) :=
  pdBin op_mod (bin_I (c := fun _ j => decide (0 < j)) (fun i j h => of_decide_eq_true h) fun _ _ _ => .int _) ha hb
def gPow : D → D → Option Res := oI fun i j => if (decide (0 ≤ j) && decide (j ≤ 1000) && decide (i.natAbs < 2 ^ 64)) = true then some (.int (i ^ j.toNat)) else none
theorem pdPow (ha : PD X a fa) (hb : PD X b fb) : PD X (.BinOp a .Pow b pos) (iBin gPow fa fb) :=
  pdBin op_pow (bin_I (c := fun i j => decide (0 ≤ j) && decide (j ≤ 1000) && decide (i.natAbs < 2 ^ 64)) (fun i j h => by
    simp only [Bool.and_eq_true, decide_eq_true_eq] at h
    exact ⟨h.1.1, by omega, h.2⟩) fun _ _ _ => .int _) ha hb
def gNeg : D → Option Res
  | .int i => some (.val (.int (-i)))
  | _ => none
theorem un_neg_ok {K : PySem.W.Frag} : UnOk K (rU fun i => .int (-i)) gNeg := by
  intro V H x d res sub hx hg Q q
  unfold gNeg at hg
  split at hg
  · cases hg
    cases hx.int
    exact ⟨_, rfl, q _ V H (Al.refl sub) (.int _)⟩
  · cases hg
theorem pdNeg (ha : PD X a fa) : PD X (.UnaryOp .USub a pos) (iUn gNeg fa) := let ⟨_, h1, k1⟩ := ha; ⟨_, pe_un un_neg h1, sd_un un_neg_ok k1⟩
/-! comparisons -/
theorem pdCmp {op : CmpOp} {r : R2} {g : D → D → Option Res} (ho : OpR X (compareOp op) r) (hB : BinOk X.K r g) (hm : behindInMarks op b = false) (ha : PD X a fa) (hb : PD X b fb) : PD X (.Compare a [op] [b] pos) (iBin g fa fb) :=
  let ⟨_, h1, k1⟩ := ha; let ⟨_, h2, k2⟩ := hb; ⟨_, pe_cmpR ho h1 h2 hm, sd_bin hB k1 k2⟩
theorem tdCmp {op : CmpOp} {r : R2} {g : D → D → Option Res} (ho : OpR X (compareOp op) r) (hB : BinOk X.K r g) (hm : behindInMarks op b = false) (ha : PD X a fa) (hb : PD X b fb) : TD X (.Compare a [op] [b] pos) (iTst (iBin g fa fb)) :=
  let ⟨_, h1, k1⟩ := ha; let ⟨_, h2, k2⟩ := hb; ⟨_, pt_cmpR ho h1 h2 hm, sdt_test (sd_bin hB k1 k2)⟩
def gLt : D → D → Option Res := alt (oI fun i j => some (.bool (decide (i < j)))) gLtT
def gLe : D → D → Option Res := oI fun i j => some (.bool (decide (i ≤ j)))
def gGt : D → D → Option Res := oI fun i j => some (.bool (decide (j < i)))
def gGe : D → D → Option Res := oI fun i j => some (.bool (decide (j ≤ i)))
theorem oLt (hr : Room k X.A) : ∃ r, OpR X (compareOp .Lt) r ∧ BinOk X.K r gLt := ⟨_, opOr op_lt (op_ltT (hu0 hr)), binOr (bin_I0 fun _ _ _ => .bool _) bin_ltT⟩
theorem oLe : ∃ r, OpR X (compareOp .LtE) r ∧ BinOk X.K r gLe := ⟨_, op_le, bin_I0 fun _ _ _ => .bool _⟩
theorem oGt : ∃ r, OpR X (compareOp .Gt) r ∧ BinOk X.K r gGt := ⟨_, op_gt, bin_I0 fun _ _ _ => .bool _⟩
theorem oGe : ∃ r, OpR X (compareOp .GtE) r ∧ BinOk X.K r gGe := ⟨_, op_ge, bin_I0 fun _ _ _ => .bool _⟩
theorem oEq (hr : Room k X.A) : ∃ r, OpR X (compareOp .Eq) r ∧ BinOk X.K r gEq := ⟨_, opOr op_eq (op_eqD (hu64 hr)), bin_eq⟩
theorem oNe (hr : Room k X.A) : ∃ r, OpR X (compareOp .NotEq) r ∧ BinOk X.K r gNe := ⟨_, opOr op_ne (op_neD (hu64 hr)), bin_ne⟩
theorem oIs : ∃ r, OpR X (compareOp .Is) r ∧ BinOk X.K r gIs := ⟨_, op_isN, bin_is⟩
theorem oIsN : ∃ r, OpR X (compareOp .IsNot) r ∧ BinOk X.K r gIsN := ⟨_, op_notN, bin_isN⟩
theorem oIn : ∃ r, OpR X (compareOp .In) r ∧ BinOk X.K r (alt (gIn false) (gInS false)) := ⟨_, opOr op_in_seq op_in_str, binOr bin_in bin_inS⟩
theorem oNotIn : ∃ r, OpR X (compareOp .NotIn) r ∧ BinOk X.K r (alt (gIn true) (gInS true)) := ⟨_, opOr op_notIn_seq op_notin_str, binOr bin_in bin_ninS⟩
/-- a comparison as a value, as a test: o is oLt .. oNotIn -/
theorem pdC {op : CmpOp} {g : D → D → Option Res} (o : ∃ r, OpR X (compareOp op) r ∧ BinOk X.K r g) (hm : behindInMarks op b = false) (ha : PD X a fa) (hb : PD X b fb) : PD X (.Compare a [op] [b] pos) (iBin g fa fb) := let ⟨_, h, h'⟩ := o; pdCmp h h' hm ha hb
theorem tdC {op : CmpOp} {g : D → D → Option Res} (o : ∃ r, OpR X (compareOp op) r ∧ BinOk X.K r g) (hm : behindInMarks op b = false) (ha : PD X a fa) (hb : PD X b fb) : TD X (.Compare a [op] [b] pos) (iTst (iBin g fa fb)) := let ⟨_, h, h'⟩ := o; tdCmp h h' hm ha hb
/-! and, or, not, if -/
theorem pdOne {op : BoolOp} (ha : PD X a fa) : PD X (.BoolOp op [a] pos) fa := let ⟨_, h1, k1⟩ := ha; ⟨_, pe_one h1, k1⟩
theorem pdAnd {c : Expr} {rest : List Expr} (ha : PD X a fa) (hb : PD X (.BoolOp .And (c :: rest) pos) fb) : PD X (.BoolOp .And (a :: c :: rest) pos) (iAnd fa fb) := let ⟨_, h1, k1⟩ := ha; let ⟨_, h2, k2⟩ := hb; ⟨_, pe_and h1 h2, sd_and k1 k2⟩
theorem pdOr {c : Expr} {rest : List Expr} (ha : PD X a fa) (hb : PD X (.BoolOp .Or (c :: rest) pos) fb) : PD X (.BoolOp .Or (a :: c :: rest) pos) (iOr fa fb) := let ⟨_, h1, k1⟩ := ha; let ⟨_, h2, k2⟩ := hb; ⟨_, pe_or h1 h2, sd_or k1 k2⟩
theorem pdNot (ha : PD X a fa) : PD X (.UnaryOp .Not a pos) (iNot fa) := let ⟨_, h1, k1⟩ := ha; ⟨_, pe_not h1, sd_not k1⟩
theorem pdIfE {c : Expr} {fc : EvT} (hc : TD X c fc) (ha : PD X a fa) (hb : PD X b fb) : PD X (.IfExp c a b pos) (iIf fc fa fb) := let ⟨_, h0, k0⟩ := hc; let ⟨_, h1, k1⟩ := ha; let ⟨_, h2, k2⟩ := hb; ⟨_, pe_ifExp h0 h1 h2, sd_if k0 k1 k2⟩
theorem tdTru (ha : PD X a fa) (he : ∀ whole, isTrue a X.env whole = (do let v ← whole; standAt a.pos; holding [v] (truthy v)) := by intro _; rfl) : TD X a (iTru fa) := let ⟨_, h1, k1⟩ := ha; ⟨_, pt_truth h1 he, sdt_tru k1⟩
theorem tdNot {c : Expr} {fc : EvT} (hc : TD X c fc) : TD X (.UnaryOp .Not c pos) (iNotT fc) := let ⟨_, h0, k0⟩ := hc; ⟨_, pt_not h0, sdt_not k0⟩
theorem tdW {c : Expr} {fc : EvT} (hc : WD X c fc) : TD X c fc := let ⟨_, h0, k0⟩ := hc; ⟨_, h0.pt, k0⟩
theorem wdA1 {c : Expr} {fc : EvT} (hc : TD X c fc) : WD X (.BoolOp .And [c] pos) fc := let ⟨_, h0, k0⟩ := hc; ⟨_, pw_and1 h0, k0⟩
theorem wdO1 {c : Expr} {fc : EvT} (hc : TD X c fc) : WD X (.BoolOp .Or [c] pos) fc := let ⟨_, h0, k0⟩ := hc; ⟨_, pw_or1 h0, k0⟩
theorem wdA {c d : Expr} {rest : List Expr} {fc fd : EvT} (hc : TD X c fc) (hd : WD X (.BoolOp .And (d :: rest) pos) fd) : WD X (.BoolOp .And (c :: d :: rest) pos) (iAndT fc fd) := let ⟨_, h0, k0⟩ := hc; let ⟨_, h1, k1⟩ := hd; ⟨_, pw_and h0 h1, sdt_and k0 k1⟩
theorem wdO {c d : Expr} {rest : List Expr} {fc fd : EvT} (hc : TD X c fc) (hd : WD X (.BoolOp .Or (d :: rest) pos) fd) : WD X (.BoolOp .Or (c :: d :: rest) pos) (iOrT fc fd) := let ⟨_, h0, k0⟩ := hc; let ⟨_, h1, k1⟩ := hd; ⟨_, pw_or h0 h1, sdt_or k0 k1⟩
/-! displays, items, slices -/
theorem adNil : AD X [] argN := ⟨_, pa_nil, sda_nil⟩
theorem adCons {fs : EvA} (ha : PD X e f) (hs : AD X es fs) (he : starEach (e :: es) X.env = (false, eval e X.env) :: starEach es X.env := by rfl) : AD X (e :: es) (argC f fs) := let ⟨_, h1, k1⟩ := ha; let ⟨_, h2, k2⟩ := hs; ⟨_, pa_cons h1 h2 he, sda_cons k1 k2⟩
theorem pdTup {c : Nat} (hs : AD X es fs) : PD X (.Tuple es c pos) (iTup fs) := let ⟨_, h1, k1⟩ := hs; ⟨_, pe_tup h1, sd_tup k1⟩
theorem pdLst (hs : AD X es fs) : PD X (.List es pos) (iLst fs) := let ⟨_, h1, k1⟩ := hs; ⟨_, pe_lst h1, sd_lst k1⟩
theorem pdIx (ha : PD X a fa) (hb : PD X b fb) (hs : PlainIx b := by exact fun _ _ => rfl) : PD X (.Subscript a b pos) (iBin gIx fa fb) := let ⟨_, h1, k1⟩ := ha; let ⟨_, h2, k2⟩ := hb; ⟨_, pe_ix ix_seq h1 h2 hs, sd_bin bin_ix k1 k2⟩
def OD (X : Cx) (o : Option Expr) (f : EvO) : Prop := ∃ t, PO X o t ∧ SdO X.K t f
theorem odN : OD X none iNoP := ⟨_, po_none, sdo_none⟩
theorem odS (ha : PD X a fa) : OD X (some a) (iPart fa) := let ⟨_, h1, k1⟩ := ha; ⟨_, po_some h1, sdo_part k1⟩
theorem pdSl {lo hi : Option Expr} {fl fh : EvO} (ha : PD X a fa) (h1 : OD X lo fl) (h2 : OD X hi fh) : PD X (.Subscript a (.Slice lo hi none p2) pos) (iSl fa fl fh) :=
  let ⟨_, g1, k1⟩ := ha; let ⟨_, g2, k2⟩ := h1; let ⟨_, g3, k3⟩ := h2; ⟨_, pe_slice (sl_list.or (sl_tupA.or sl_str)) g1 g2 g3, sd_sl k1 k2 k3⟩
/-! built-ins -/
variable {x : Str}
theorem pdB {id : String} {r : List L2.V → Hp → VK → Prop} {g : List D → Option Res} (hc : CallR X (.builtin id) r) (hB : CallOk X.K r g) (hg : Gl X x) (hm : X.mg x = none) (hv : bootBuiltins x = some (.builtin id)) (ha : AD X (e :: es) fs) (hn : x ≠ "__name__" := by decide) (hdb : (x == ("__debug__" : Str)) = false := by decide)
    (he : starEach (e :: es) X.env = (false, eval e X.env) :: starEach es X.env := by rfl) (hpl : (backTo pos (starEach es X.env)).any (·.1) = false := by rfl) : PD X (.Call (.Name x p) (e :: es) [] pos) (iCB g fs) :=
  let ⟨_, h1, k1⟩ := ha; ⟨_, pe_callB hc hg hm hv h1 hn hdb he hpl, sd_cb hB k1⟩
theorem pdBT {id : String} {r : List L2.V → Hp → VK → Prop} {g : List D → Option Res} (hc : CallR X (.type id) r) (hB : CallOk X.K r g) (hg : Gl X x) (hm : X.mg x = none) (hv : bootBuiltins x = some (.type id)) (ha : AD X (e :: es) fs) (hn : x ≠ "__name__" := by decide) (hdb : (x == ("__debug__" : Str)) = false := by decide)
    (he : starEach (e :: es) X.env = (false, eval e X.env) :: starEach es X.env := by rfl) (hpl : (backTo pos (starEach es X.env)).any (·.1) = false := by rfl) : PD X (.Call (.Name x p) (e :: es) [] pos) (iCB g fs) :=
  let ⟨_, h1, k1⟩ := ha; ⟨_, pe_callTy hc hg hm hv h1 hn hdb he hpl, sd_cb hB k1⟩
end
end DL

namespace DL
open PySem PySem.Spec PyProof.Rows L2
open Evl (Ex)
section
variable {X : Cx} {k : Nat} {a b e l tg : Expr} {es : List Expr} {pos p p2 : Pos} {fa fb f : EvF} {fs : EvA} {x : Str} {st : Stmt} {rest body orelse : List Stmt} {g h : StF}
/-! ### the built-ins by name -/
theorem bLen (m : X.mg "len" = none) (hg : Gl X "len") (ha : AD X [e] fs) (he : starEach [e] X.env = (false, eval e X.env) :: starEach [] X.env := by rfl) : PD X (.Call (.Name "len" p) [e] [] pos) (iCB (c1 gLen) fs) :=
  pdB call_len call_len_ok hg m boot_len ha (by decide) (by decide) he
theorem bInt (m : X.mg "int" = none) (hg : Gl X "int") (ha : AD X [e] fs) (he : starEach [e] X.env = (false, eval e X.env) :: starEach [] X.env := by rfl) : PD X (.Call (.Name "int" p) [e] [] pos) (iCB (c1 gInt) fs) :=
  pdBT call_int1 call_int_ok hg m boot_int ha (by decide) (by decide) he
theorem bList (m : X.mg "list" = none) (hg : Gl X "list") (ha : AD X [e] fs) (he : starEach [e] X.env = (false, eval e X.env) :: starEach [] X.env := by rfl) : PD X (.Call (.Name "list" p) [e] [] pos) (iCB (c1 gList) fs) :=
  pdBT call_list_of call_list_ok hg m boot_list ha (by decide) (by decide) he
theorem bTuple (m : X.mg "tuple" = none) (hg : Gl X "tuple") (ha : AD X [e] fs) (he : starEach [e] X.env = (false, eval e X.env) :: starEach [] X.env := by rfl) : PD X (.Call (.Name "tuple" p) [e] [] pos) (iCB (c1 gTuple) fs) :=
  pdBT call_tuple_of call_tuple_ok hg m boot_tuple ha (by decide) (by decide) he
theorem bAll (hc : X.calm = true) (m : X.mg "all" = none) (hg : Gl X "all") (ha : AD X [e] fs) (he : starEach [e] X.env = (false, eval e X.env) :: starEach [] X.env := by rfl) : PD X (.Call (.Name "all" p) [e] [] pos) (iCB (c1 (gAll true)) fs) :=
  pdB (cr_all hc) call_all_ok hg m (by decide +kernel) ha (by decide) (by decide) he
theorem bAny (hc : X.calm = true) (m : X.mg "any" = none) (hg : Gl X "any") (ha : AD X [e] fs) (he : starEach [e] X.env = (false, eval e X.env) :: starEach [] X.env := by rfl) : PD X (.Call (.Name "any" p) [e] [] pos) (iCB (c1 (gAll false)) fs) :=
  pdB (cr_any hc) call_any_ok hg m (by decide +kernel) ha (by decide) (by decide) he
theorem bSum (hc : X.calm = true) (m : X.mg "sum" = none) (hg : Gl X "sum") (ha : AD X [e] fs) (he : starEach [e] X.env = (false, eval e X.env) :: starEach [] X.env := by rfl) : PD X (.Call (.Name "sum" p) [e] [] pos) (iCB (c1 gSum) fs) :=
  pdB (cr_sum hc) call_sum_ok hg m (by decide +kernel) ha (by decide) (by decide) he
/-- isinstance(e, T), T a built-in class by its name -/
theorem bIsi {T : Str} {n : String} (m : X.mg "isinstance" = none) (hg : Gl X "isinstance") (hT : Gl X T) (mT : X.mg T = none) (bT : bootBuiltins T = some (.type n)) (ha : PD X e f) (hn : T ≠ "__name__" := by decide) (hd : (T == ("__debug__" : Str)) = false := by decide)
    (he : starEach [e, .Name T p2] X.env = (false, eval e X.env) :: starEach [.Name T p2] X.env := by rfl) (he2 : starEach [.Name T p2] X.env = (false, eval (.Name T p2) X.env) :: starEach [] X.env := by rfl) (hpl : (backTo pos (starEach [.Name T p2] X.env)).any (·.1) = false := by rfl) :
    PD X (.Call (.Name "isinstance" p) [e, .Name T p2] [] pos) (iIsi n f) :=
  let ⟨_, h1, k1⟩ := ha
  ⟨_, pe_callB call_isi hg m boot_isinstance (pa_cons h1 (pa_cons (pe_bltn hT mT bT (show RelV (.ty n) (.type n) from rfl) hn hd) pa_nil he2) he) (by decide) (by decide) he hpl, sd_isi k1⟩
/-! ### calls of defs -/
def argLen : EvA → Nat → Prop := fun fs n => ∀ env rs env', fs env = some (rs, env') → rs.length = n
theorem argLen0 : argLen argN 0 := fun env rs env' h => by cases h; rfl
theorem argLenS {fs : EvA} {n : Nat} (h : argLen fs n) : argLen (argC f fs) (n + 1) := fun env rs env' q => by
  simp only [argC, Option.bind_eq_some_iff] at q
  obtain ⟨⟨r, e1⟩, h1, ⟨rs', e2⟩, h2, h3⟩ := q
  cases h3
  rw [List.length_cons, h _ _ _ h2]
theorem pdCall {F : Addr} {fd : FuncData} {ps : List Str} {n : Nat} {m : Fn} (G : FnOk X.prog X.w X.K X.mg X.base CX0 k F fd ps (spF X.K n m)) (hr : Room k X.A) (hg : Gl X x) (hm : X.mg x = some (.ref F)) (hk : PySem.W.keepIn X.K (.ref F) = true) (hb : Binds X.K fd ps [])
    (ha : AD X (e :: es) fs) (hl : argLen fs n) (hdb : (x == ("__debug__" : Str)) = false := by decide) (he : starEach (e :: es) X.env = (false, eval e X.env) :: starEach es X.env := by rfl) (hpl : (backTo pos (starEach es X.env)).any (·.1) = false := by rfl) :
    PD X (.Call (.Name x p) (e :: es) [] pos) (iCall m fs) :=
  let ⟨_, h1, k1⟩ := ha; ⟨_, pe_call G hr hg hm hk hb .nil pass0 h1 hdb he hpl, sd_call k1 hl⟩
/-! ### statements -/
theorem bdNil : BD X [] iNext := ⟨_, pss_nil, sds_next⟩
theorem bdCons (hs : StD X st g) (hr : BD X rest h) : BD X (st :: rest) (iSeq g h) := let ⟨_, h1, k1⟩ := hs; let ⟨_, h2, k2⟩ := hr; ⟨_, pss_cons h1 h2, sds_seq k1 k2⟩
theorem bdOne (hs : StD X st g) : BD X [st] g := let ⟨_, h1, k1⟩ := hs; ⟨_, pss_one h1, k1⟩
theorem bdFrz (i : Nat) (h : BD X rest g) : BD X rest (iSeq (iFrz i) g) := let ⟨_, h1, k1⟩ := h; ⟨_, h1, sds_frz k1⟩
theorem stAsg (ow : Bool) (i : Nat) (nd : X.N.Nodup) (he : PD X e f) (hi : X.N[i]? = some x := by rfl) (hx : Loc X.env.scope x := by first | exact Or.inl rfl | exact Or.inr rfl) (hf : X.fn x = true ∨ X.env.scope.names.lookup x = some .local := by first | exact .inl rfl | exact .inr rfl)
    (hs : swapsWithSole [.Name x p] e pos.line X.env = pure false := by rfl) (hw : swappedStores [.Name x p] e X.env = pure none := by rfl) (h1 : (assignEach [.Name x p] X.env).map (·.2) = [assign (.Name x p) X.env] := by rfl) : StD X (.Assign [.Name x p] e pos) (iAsg ow i f) :=
  let ⟨_, g1, k1⟩ := he; ⟨_, ps_asg g1 (pg_name nd hi hx hf) hs hw h1, sds_asg k1⟩
theorem gdName (i : Nat) (nd : X.N.Nodup) (hi : X.N[i]? = some x := by rfl) (hx : Loc X.env.scope x := by first | exact Or.inl rfl | exact Or.inr rfl) (hf : X.fn x = true ∨ X.env.scope.names.lookup x = some .local := by first | exact .inl rfl | exact .inr rfl) : GD X (.Name x p) (iNm i) := ⟨_, pg_name nd hi hx hf, sdg_name i⟩
theorem gsNil : GsD X [] iGN := ⟨_, pgs_nil, sdgs_nil⟩
theorem gsCons {g : TgF} {gs : TgsF} (h1 : GD X e g) (h2 : GsD X es gs) (hs : (assignEach (e :: es) X.env).map (·.2) = assign e X.env :: (assignEach es X.env).map (·.2) := by rfl) : GsD X (e :: es) (iGC g gs) := let ⟨_, g1, k1⟩ := h1; let ⟨_, g2, k2⟩ := h2; ⟨_, pgs_cons g1 g2 hs, sdgs_cons k1 k2⟩
theorem gdTup {c n : Nat} {gs : TgsF} (hc : X.calm = true) (h : GsD X es gs) (hn : (assignEach es X.env).length = n := by rfl) (hst : (assignEach es X.env).findIdx? (·.1) = none := by rfl) : GD X (.Tuple es c pos) (iGT gs n) := let ⟨_, g1, k1⟩ := h; ⟨_, pg_both hc g1 hn hst, sdg_tup k1⟩
theorem stAsgT {g : TgF} (hg : GD X tg g) (he : PD X e f) (hs : swapsWithSole [tg] e pos.line X.env = pure false := by rfl) (hw : swappedStores [tg] e X.env = pure none := by rfl) (h1 : (assignEach [tg] X.env).map (·.2) = [assign tg X.env] := by rfl) : StD X (.Assign [tg] e pos) (iAsgT g f) :=
  let ⟨_, g1, k1⟩ := he; let ⟨_, g2, k2⟩ := hg; ⟨_, ps_asg g1 g2 hs hw h1, sds_asgT k2 k1⟩
theorem stAdd (i : Nat) (nd : X.N.Nodup) (he : PD X e f) (hi : X.N[i]? = some x := by rfl) (hx : Loc X.env.scope x := by first | exact Or.inl rfl | exact Or.inr rfl) (hf : X.fn x = true ∨ X.env.scope.names.lookup x = some .local := by first | exact .inl rfl | exact .inr rfl) : StD X (.AugAssign (.Name x p) .Add e pos) (iAug i (fun i j => i + j) f) :=
  let ⟨_, g1, k1⟩ := he; ⟨_, ps_aug nd hi hx g1 ip_add hf, sds_aug k1⟩
theorem stIf {c : Expr} {fc : EvT} (hc : TD X c fc) (ha : BD X body g) (hb : BD X orelse h) : StD X (.If c body orelse pos) (iIfS fc g h) := let ⟨_, h0, k0⟩ := hc; let ⟨_, h1, k1⟩ := ha; let ⟨_, h2, k2⟩ := hb; ⟨_, ps_if h0 h1 h2, sds_if k0 k1 k2⟩
theorem stRet (he : PD X e f) : StD X (.Return (some e) pos) (iRet f) := let ⟨_, h1, k1⟩ := he; ⟨_, ps_ret h1, sds_ret k1⟩
theorem stRetN : StD X (.Return none pos) iRetN := ⟨_, ps_retN, sds_retN⟩
theorem stExpr (he : PD X e f) (hs : swapsWith e none pos.line X.env = pure false := by rfl) : StD X (.Expr e pos) (iDrop f) := let ⟨_, h1, k1⟩ := he; ⟨_, ps_expr h1 hs, sds_drop k1⟩
theorem stBrk : StD X (.Break pos) iBrk := ⟨_, ps_break, sds_brk⟩
theorem stCont : StD X (.Continue pos) iCont := ⟨_, ps_continue, sds_cont⟩
theorem stFor {it : ItF} {gt : TgF} (hc : X.calm = true) (hi : ID X tg e it) (hg : GD X tg gt) (hb : BD X body g) (hp : PassesOwn (model X.prog X.w) X.A X.env X.xe) (hs : ∀ x, foldedSetIterable e X.env x = pure x := by intro _; rfl) : StD X (.For tg e body [] pos) (iFor it gt g) :=
  let ⟨_, h0, k0⟩ := hi; let ⟨_, h1, k1⟩ := hg; let ⟨_, h2, k2⟩ := hb; ⟨_, ps_for hp hc h0 h1 h2 hs, sds_for k0 k1 k2⟩
theorem idSeq (he : PD X e f) : ID X tg e (iSeqI f) := let ⟨_, h1, k1⟩ := he; ⟨_, pi_sq h1, sdi_seq k1⟩
theorem idR1 (hg : Gl X "range") (hm : X.mg "range" = none) (ha : AD X [a] fs) (hs : starEach [a] X.env = [(false, eval a X.env)] := by rfl) : ID X tg (.Call (.Name "range" p) [a] [] pos) (iR1 fs) := let ⟨_, h1, k1⟩ := ha; ⟨_, pi_range1 hg hm h1 hs, sdi_r1 k1⟩
theorem idR2 (hg : Gl X "range") (hm : X.mg "range" = none) (ha : AD X [a, b] fs) (hs : starEach [a, b] X.env = [(false, eval a X.env), (false, eval b X.env)] := by rfl) (hs2 : starEach [b] X.env = [(false, eval b X.env)] := by rfl) : ID X tg (.Call (.Name "range" p) [a, b] [] pos) (iR2 fs) :=
  let ⟨_, h1, k1⟩ := ha; ⟨_, pi_range2 hg hm h1 hs hs2, sdi_r2 k1⟩
theorem stWhile {c : Expr} {fc : EvT} (n : Nat) (hc : TD X c fc) (hb : BD X body g) (hp : PassesOwn (model X.prog X.w) X.A X.env X.xe) : StD X (.While c body [] pos) (wloop fc g n) := let ⟨_, h0, k0⟩ := hc; let ⟨_, h1, k1⟩ := hb; ⟨_, ps_while hp h0 h1, sds_while n k0 k1⟩
theorem stApp (i : Nat) (he : PD X e f) {apos p : Pos} (hN : X.N[i]? = some x := by rfl) (hv : Vis X.env.scope x := by first | exact Or.inl rfl | exact Or.inr (Or.inl rfl) | exact Or.inr (Or.inr rfl)) (hd : (x == ("__debug__" : Str)) = false := by decide) (hcd : (x == ("__classdict__" : Str)) = false := by decide)
    (h1 : attributeBase (.Name x p) "append" X.env (eval (.Name x p) X.env) = eval (.Name x p) X.env := by rfl) (h2 : (apos.endLine == pos.line) = true := by rfl) (h3 : starEach [e] X.env = (false, eval e X.env) :: starEach [] X.env := by rfl) (h4 : (backTo pos (starEach [] X.env)).any (·.1) = false := by rfl)
    (h5 : ((backTo pos (starEach [e] X.env)).all (fun x => !x.1) && (backToKw pos (keywordEach [] X.env)).all (fun x => x.1.isSome) && decide ([e].length + ([] : List Keyword).length + (if ([] : List Keyword).isEmpty then 0 else 1) < 30)) = true := by rfl) (hs : swapsWith (.Call (.Attribute (.Name x p) "append" apos) [e] [] pos) none p2.line X.env = pure false := by rfl) : StD X (.Expr (.Call (.Attribute (.Name x p) "append" apos) [e] [] pos) p2) (iApp i f) :=
  let ⟨_, g1, k1⟩ := he
  ⟨_, ps_expr (pe_bm PySem.F.plainAttrs_list PySem.F.slot_list_append PySem.F.type_list_append mt_append (pe_var hN hv hd hcd) (pa_cons g1 pa_nil h3) h1 h5 h2 h3 h4) hs, sds_app k1⟩
theorem stExt (i : Nat) (he : PD X e f) {apos p : Pos} (hN : X.N[i]? = some x := by rfl) (hv : Vis X.env.scope x := by first | exact Or.inl rfl | exact Or.inr (Or.inl rfl) | exact Or.inr (Or.inr rfl)) (hd : (x == ("__debug__" : Str)) = false := by decide) (hcd : (x == ("__classdict__" : Str)) = false := by decide)
    (h1 : attributeBase (.Name x p) "extend" X.env (eval (.Name x p) X.env) = eval (.Name x p) X.env := by rfl) (h2 : (apos.endLine == pos.line) = true := by rfl) (h3 : starEach [e] X.env = (false, eval e X.env) :: starEach [] X.env := by rfl) (h4 : (backTo pos (starEach [] X.env)).any (·.1) = false := by rfl)
    (h5 : ((backTo pos (starEach [e] X.env)).all (fun x => !x.1) && (backToKw pos (keywordEach [] X.env)).all (fun x => x.1.isSome) && decide ([e].length + ([] : List Keyword).length + (if ([] : List Keyword).isEmpty then 0 else 1) < 30)) = true := by rfl) (hs : swapsWith (.Call (.Attribute (.Name x p) "extend" apos) [e] [] pos) none p2.line X.env = pure false := by rfl) : StD X (.Expr (.Call (.Attribute (.Name x p) "extend" apos) [e] [] pos) p2) (iExt i f) :=
  let ⟨_, g1, k1⟩ := he
  ⟨_, ps_expr (pe_bm PySem.F.plainAttrs_list PySem.F.slot_list_extend PySem.F.type_list_extend mt_extend (pe_var hN hv hd hcd) (pa_cons g1 pa_nil h3) h1 h5 h2 h3 h4) hs, sds_ext k1⟩
theorem pdPop (i : Nat) {apos p : Pos} (hN : X.N[i]? = some x := by rfl) (hv : Vis X.env.scope x := by first | exact Or.inl rfl | exact Or.inr (Or.inl rfl) | exact Or.inr (Or.inr rfl)) (hd : (x == ("__debug__" : Str)) = false := by decide) (hcd : (x == ("__classdict__" : Str)) = false := by decide)
    (h1 : attributeBase (.Name x p) "pop" X.env (eval (.Name x p) X.env) = eval (.Name x p) X.env := by rfl) (h2 : (apos.endLine == pos.line) = true := by rfl) : PD X (.Call (.Attribute (.Name x p) "pop" apos) [] [] pos) (iPop i) :=
  ⟨_, pe_bm0 PySem.F.plainAttrs_list PySem.F.slot_list_pop PySem.F.type_list_pop mt_pop (pe_var hN hv hd hcd) h1 h2, sd_pop⟩
end
end DL

namespace DL
open PySem PySem.Spec PyProof.Rows L2
open Evl (Ex)
theorem relI {i : Int} {t : Tok} : RelV (.int i) (.int i t) := ⟨t, rfl⟩
theorem relS {i : Str} {t : Tok} : RelV (.str i) (.str i t) := ⟨t, rfl⟩
theorem relR {a : Addr} : RelV (.ref a) (.ref a) := rfl
/-! ### one reading for a meaning -/
def cE (K : PySem.W.Frag) (f : EvF) : TE := fun σ H Q => ∀ t, Sd K t f → t σ H Q
theorem cE_sd {K : PySem.W.Frag} {f : EvF} : Sd K (cE K f) f := fun env r env' e σ V H ok Q q t ht => ht env r env' e σ V H ok Q q
theorem PD.canon {X : Cx} {e : Expr} {f : EvF} (h : PD X e f) : PE X e (cE X.K f) :=
  let ⟨t, h1, h2⟩ := h; ⟨fun pins s σ H Q I q => h1.run pins s σ H Q I (q t h2)⟩
def cT (K : PySem.W.Frag) (f : EvT) : TT := fun σ H Q => ∀ t, SdT K t f → t σ H Q
theorem cT_sd {K : PySem.W.Frag} {f : EvT} : SdT K (cT K f) f := fun env r env' e σ V H ok Q q t ht => ht env r env' e σ V H ok Q q
def TsD (X : Cx) (cs : List Expr) (f : EvT) : Prop := ∃ t, PTs X cs t ∧ SdT X.K t f
theorem TsD.canon {X : Cx} {cs : List Expr} {f : EvT} (h : TsD X cs f) : PTs X cs (cT X.K f) :=
  let ⟨t, h1, h2⟩ := h; ⟨fun pins s σ H Q I q => h1.run pins s σ H Q I (q t h2)⟩
def GDv (X : Cx) (e : Expr) (g : TgF) (vs : List Nat) : Prop := ∃ t, PG X e t ∧ SdGv X.K t g vs
def GsDv (X : Cx) (es : List Expr) (g : TgsF) (vs : List Nat) : Prop := ∃ t, PGs X es t ∧ SdGsv X.K t g vs
def cG (K : PySem.W.Frag) (g : TgF) (vs : List Nat) : TG := fun v σ H Q => ∀ t, SdGv K t g vs → t v σ H Q
theorem cG_sd {K : PySem.W.Frag} {g : TgF} {vs : List Nat} : SdGv K (cG K g vs) g vs := fun env d env' e σ V H v ok r Q q t ht => ht env d env' e σ V H v ok r Q q
theorem GDv.canon {X : Cx} {e : Expr} {g : TgF} {vs : List Nat} (h : GDv X e g vs) : PG X e (cG X.K g vs) :=
  let ⟨t, h1, h2⟩ := h; ⟨fun pins s σ H v u Q I r q => h1.run pins s σ H v u Q I r (q t h2)⟩
section
variable {X : Cx} {k : Nat} {a b c e l tg elt iter : Expr} {es ifs : List Expr} {pos p p2 : Pos} {fa fb f : EvF} {fs : EvA} {x : Str} {vs : List Nat}
theorem gvName {i : Nat} (nd : X.N.Nodup) (hm : i ∈ vs) (hi : X.N[i]? = some x := by rfl) (hx : Loc X.env.scope x := by first | exact Or.inl rfl | exact Or.inr rfl) (hf : X.fn x = true ∨ X.env.scope.names.lookup x = some .local := by first | exact .inl rfl | exact .inr rfl) : GDv X (.Name x p) (iNm i) vs := ⟨_, pg_name nd hi hx hf, sdgv_name hm⟩
theorem gvNil : GsDv X [] iGN vs := ⟨_, pgs_nil, sdgsv_nil⟩
theorem gvCons {g : TgF} {gs : TgsF} (h1 : GDv X e g vs) (h2 : GsDv X es gs vs) (hs : (assignEach (e :: es) X.env).map (·.2) = assign e X.env :: (assignEach es X.env).map (·.2) := by rfl) : GsDv X (e :: es) (iGC g gs) vs := let ⟨_, g1, k1⟩ := h1; let ⟨_, g2, k2⟩ := h2; ⟨_, pgs_cons g1 g2 hs, sdgsv_cons k1 k2⟩
theorem gvTup {c n : Nat} {gs : TgsF} (hc : X.calm = true) (h : GsDv X es gs vs) (hn : (assignEach es X.env).length = n := by rfl) (hst : (assignEach es X.env).findIdx? (·.1) = none := by rfl) : GDv X (.Tuple es c pos) (iGT gs n) vs := let ⟨_, g1, k1⟩ := h; ⟨_, pg_both hc g1 hn hst, sdgv_tup k1⟩
def iYes : EvT := fun env => some (true, env)
theorem tsNil : TsD X [] iYes := ⟨_, pts_nil, fun env b env' e σ V H ok Q q => by cases e; exact q V H (Adv.refl ok)⟩
theorem tsOne {fc : EvT} (h : TD X c fc) : TsD X [c] fc := let ⟨_, h1, k1⟩ := h; ⟨_, pts_one h1, k1⟩
theorem pdLc {scope : Scope} {own : List (Str × Nat)} {it : ItF} {g : TgF} {fc : EvT} (hc : X.calm = true) (nd : X.N.Nodup) (hi : ID X tg iter it) (ok : BlkOk X.N X.env.scope scope own)
    (hg : ∀ (s : Shared) (H : Hp) (C : Addr) (cl : List (Str × Addr)) (fp : List Addr), GDv (X.blk s H scope (compEnvC scope cl C X.env) fp) tg g (own.map (·.2)))
    (ht : ∀ (s : Shared) (H : Hp) (C : Addr) (cl : List (Str × Addr)) (fp : List Addr), TsD (X.blk s H scope (compEnvC scope cl C X.env) fp) ifs fc)
    (he : ∀ (s : Shared) (H : Hp) (C : Addr) (cl : List (Str × Addr)) (fp : List Addr), PD (X.blk s H scope (compEnvC scope cl C X.env) fp) elt f) (hs : ∀ x, foldedSetIterable iter X.env x = pure x := by intro _; rfl) :
    PD X (.ListComp elt [⟨tg, iter, ifs, 0⟩] scope pos) (iLc it g fc f (own.map (·.2))) :=
  let ⟨_, h0, k0⟩ := hi
  ⟨_, pe_lc (te := cE X.K f) (tt := cT X.K fc) (g := cG X.K g (own.map (·.2))) hc nd h0 ok (fun s H C cl fp => (hg s H C cl fp).canon) (fun s H C cl fp => (ht s H C cl fp).canon) (fun s H C cl fp => (he s H C cl fp).canon) hs, sd_lc k0 cG_sd cT_sd cE_sd⟩
theorem stAsgLc {scope : Scope} {own : List (Str × Nat)} {it : ItF} {g : TgF} {fc : EvT} {py spos : Pos} (ow : Bool) (i : Nat) (hc : X.calm = true) (nd : X.N.Nodup) (hy : X.N[i]? = some x) (hyl : X.env.scope.names.lookup x = some .local)
    (hsw : swapsWith (.ListComp elt [⟨tg, iter, ifs, 0⟩] scope pos) (some (.Name x py)) spos.line X.env = pure true) (hi : ID X tg iter it) (ok : BlkOk X.N X.env.scope scope own)
    (hg : ∀ (s : Shared) (H : Hp) (C : Addr) (cl : List (Str × Addr)) (fp : List Addr), GDv (X.blk s H scope (compEnvC scope cl C X.env) fp) tg g (own.map (·.2)))
    (ht : ∀ (s : Shared) (H : Hp) (C : Addr) (cl : List (Str × Addr)) (fp : List Addr), TsD (X.blk s H scope (compEnvC scope cl C X.env) fp) ifs fc)
    (he : ∀ (s : Shared) (H : Hp) (C : Addr) (cl : List (Str × Addr)) (fp : List Addr), PD (X.blk s H scope (compEnvC scope cl C X.env) fp) elt f) (hs : ∀ x, foldedSetIterable iter X.env x = pure x := by intro _; rfl) :
    StD X (.Assign [.Name x py] (.ListComp elt [⟨tg, iter, ifs, 0⟩] scope pos) spos) (iAsg ow i (iLc it g fc f (own.map (·.2)))) :=
  let ⟨_, h0, k0⟩ := hi
  ⟨_, ps_setLc (te := cE X.K f) (tt := cT X.K fc) (g := cG X.K g (own.map (·.2))) hc nd hy hyl hsw h0 ok (fun s H C cl fp => (hg s H C cl fp).canon) (fun s H C cl fp => (ht s H C cl fp).canon) (fun s H C cl fp => (he s H C cl fp).canon) hs, sds_asg (sd_lc k0 cG_sd cT_sd cE_sd)⟩
/-! ### a < b < c -/
def iChn (g g' : D → D → Option Res) (fa fb fc : EvF) : EvF := fun env => (opd fa env).bind fun p => (opd fb p.2).bind fun q => (look q.2 p.1).bind fun d => (look q.2 q.1).bind fun e => (g d e).bind fun r => (isB r).bind fun b =>
  if b = true then (opd fc q.2).bind fun s => (look s.2 q.1).bind fun e' => (look s.2 s.1).bind fun f => (g' e' f).bind fun r' => some (r', s.2) else some (.val (.bool false), q.2)
theorem sd_chn {K : PySem.W.Frag} {r r' : R2} {g g' : D → D → Option Res} {ta tb tc : TE} {fa fb fc : EvF} (h1 : BinOk K r g) (h2 : BinOk K r' g') (ha : Sd K ta fa) (hb : Sd K tb fb) (hc : Sd K tc fc) : Sd K (tChain r r' ta tb tc) (iChn g g' fa fb fc) := by
  intro env res env' e σ V H ok Q q
  simp only [iChn, Option.bind_eq_some_iff] at e
  obtain ⟨⟨ra, e1⟩, k1, ⟨rb, e2⟩, k2, d, k3, d', k4, rr, k5, b, k6, k7⟩ := e
  refine opd_snd ha k1 ok fun x V1 H1 a1 c1 => ?_
  refine opd_snd hb k2 a1.ok fun y V2 H2 a2 c2 => ?_
  have a := a1.trans a2
  have hr : rr = _ := isB_val k6
  subst hr
  refine h1 V2 H2 x y d d' _ a.ok.sub ((c1.mono a2.ex).look a.ok k3) (c2.look a.ok k4) k5 _ fun v V' H' al rv => ⟨b, R.isBool rv, ?_⟩
  have a3 := a.trans (al.adv a.ok)
  cases b with
  | false =>
    rw [if_neg Bool.false_ne_true]
    rw [if_neg Bool.false_ne_true] at k7
    cases k7
    exact q _ V' H' a3 (R.bool false)
  | true =>
    rw [if_pos rfl]
    rw [if_pos rfl] at k7
    simp only [Option.bind_eq_some_iff] at k7
    obtain ⟨⟨rc, e3⟩, m1, f', m2, f2, m3, r2, m4, m5⟩ := k7
    cases m5
    refine opd_snd hc m1 a3.ok fun z V3 H3 a4 c3 => ?_
    have a5 := a3.trans a4
    exact h2 V3 H3 y z f' f2 res a5.ok.sub ((((c2.mono al.ex)).mono a4.ex).look a5.ok m2) (c3.look a5.ok m3) m4 Q fun v V4 H4 b2 hr2 => q v V4 H4 (a5.trans (b2.adv a5.ok)) (hr2.rok a5 b2)
theorem pdChn {op op' : CmpOp} {g g' : D → D → Option Res} {fc : EvF} (o : ∃ r, OpR X (compareOp op) r ∧ BinOk X.K r g) (o' : ∃ r, OpR X (compareOp op') r ∧ BinOk X.K r g') (ha : PD X a fa) (hb : PD X b fb) (hc : PD X c fc) (hm : lastMarks [op, op'] [b, c] = false := by with_unfolding_all rfl) : PD X (.Compare a [op, op'] [b, c] pos) (iChn g g' fa fb fc) :=
  let ⟨_, h1, k1⟩ := o; let ⟨_, h2, k2⟩ := o'; let ⟨_, h3, k3⟩ := ha; let ⟨_, h4, k4⟩ := hb; let ⟨_, h5, k5⟩ := hc; ⟨_, pe_chain h1 h2 h3 h4 h5 hm, sd_chn k1 k2 k3 k4 k5⟩
theorem tdChn {op op' : CmpOp} {g g' : D → D → Option Res} {fc : EvF} (o : ∃ r, OpR X (compareOp op) r ∧ BinOk X.K r g) (o' : ∃ r, OpR X (compareOp op') r ∧ BinOk X.K r g') (ha : PD X a fa) (hb : PD X b fb) (hc : PD X c fc) (hm : lastMarks [op, op'] [b, c] = false := by with_unfolding_all rfl) : TD X (.Compare a [op, op'] [b, c] pos) (iTst (iChn g g' fa fb fc)) :=
  let ⟨_, h1, k1⟩ := o; let ⟨_, h2, k2⟩ := o'; let ⟨_, h3, k3⟩ := ha; let ⟨_, h4, k4⟩ := hb; let ⟨_, h5, k5⟩ := hc; ⟨_, pt_chain h1 h2 h3 h4 h5 hm, sdt_test (sd_chn k1 k2 k3 k4 k5)⟩
end
end DL

/-! The meanings, applied: what simp computes with. -/
namespace DL
open PySem L2
section
variable {env e : Nv} {f g fa fb fc : EvF} {fs : EvA} {c t : EvT} {s u : StF} {d d' : D} {r : Res} {i j : Int} {n : Nat}
@[simp] theorem iVar_ap : iVar n env = match env[n]? with
  | some (.val d) => some (.val d, env)
  | some (.own _ _) => some (.own n, env)
  | _ => none := rfl
@[simp] theorem iCon_ap : iCon d env = some (.val d, env) := rfl
@[simp] theorem pub_val : pub (.val d) = .val d := rfl
@[simp] theorem pub_new : pub (.new d) = .val d := rfl
@[simp] theorem pub_own : pub (.own n) = .own n := rfl
@[simp] theorem opd_ap : opd f env = (f env).bind fun p => some (pub p.1, p.2) := rfl
@[simp] theorem look_val : look env (.val d) = some d := rfl
@[simp] theorem look_new : look env (.new d) = some d := rfl
@[simp] theorem look_own' : look env (.own n) = match env[n]? with
  | some (.own _ d) => some d
  | _ => none := rfl
@[simp] theorem vis_val : vis (.val d) = some d := rfl
@[simp] theorem vis_new : vis (.new d) = some d := rfl
@[simp] theorem iBin_ap {o : D → D → Option Res} : iBin o fa fb env = (opd fa env).bind fun p => (opd fb p.2).bind fun q => (look q.2 p.1).bind fun d => (look q.2 q.1).bind fun e => (o d e).bind fun r => some (r, q.2) := rfl
@[simp] theorem iUn_ap {o : D → Option Res} : iUn o fa env = (opd fa env).bind fun p => (look p.2 p.1).bind fun d => (o d).bind fun r => some (r, p.2) := rfl
@[simp] theorem argN_ap : argN env = some ([], env) := rfl
@[simp] theorem argC_ap : argC f fs env = (opd f env).bind fun p => (fs p.2).bind fun q => some (p.1 :: q.1, q.2) := rfl
@[simp] theorem looks_nil : looks env [] = some [] := rfl
@[simp] theorem looks_cons {rs : List Res} : looks env (r :: rs) = (look env r).bind fun d => (looks env rs).bind fun ds => some (d :: ds) := rfl
@[simp] theorem viss_nil : viss [] = some [] := rfl
@[simp] theorem viss_cons {rs : List Res} : viss (r :: rs) = (vis r).bind fun d => (viss rs).bind fun ds => some (d :: ds) := rfl
@[simp] theorem iCB_ap {o : List D → Option Res} : iCB o fs env = (fs env).bind fun p => (looks p.2 p.1).bind fun ds => (o ds).bind fun r => some (r, p.2) := rfl
@[simp] theorem iTup_ap : iTup fs env = (fs env).bind fun p => (viss p.1).bind fun ds => if ds.length ≤ 1000 then some (.val (.tuple ds), p.2) else none := rfl
@[simp] theorem iLst_ap : iLst fs env = (fs env).bind fun p => (viss p.1).bind fun ds => if ds.length ≤ 1000 then some (.new (.list ds), p.2) else none := rfl
@[simp] theorem isB_ap {b : Bool} : isB (.val (.bool b)) = some b := rfl
@[simp] theorem isI_ap : isI (.val (.int i)) = some i := rfl
@[simp] theorem iTst_ap : iTst f env = (f env).bind fun p => (isB p.1).bind fun b => some (b, p.2) := rfl
@[simp] theorem iTru_ap : iTru f env = (opd f env).bind fun p => (look p.2 p.1).bind fun d => (truD d).bind fun b => some (b, p.2) := rfl
@[simp] theorem iNotT_ap : iNotT c env = (c env).bind fun p => some (!p.1, p.2) := rfl
@[simp] theorem iAndT_ap : iAndT c t env = (c env).bind fun p => if p.1 = true then t p.2 else some (false, p.2) := rfl
@[simp] theorem iOrT_ap : iOrT c t env = (c env).bind fun p => if p.1 = true then some (true, p.2) else t p.2 := rfl
@[simp] theorem iAnd_ap : iAnd fa fb env = (fa env).bind fun p => (isB p.1).bind fun b => if b = true then fb p.2 else some (.val (.bool false), p.2) := rfl
@[simp] theorem iOr_ap : iOr fa fb env = (fa env).bind fun p => (isB p.1).bind fun b => if b = true then some (.val (.bool true), p.2) else fb p.2 := rfl
@[simp] theorem iNot_ap : iNot fa env = (fa env).bind fun p => (isB p.1).bind fun b => some (.val (.bool (!b)), p.2) := rfl
@[simp] theorem iIf_ap : iIf c fa fb env = (c env).bind fun p => if p.1 = true then fa p.2 else fb p.2 := rfl
@[simp] theorem iSl_ap {lo hi : EvO} : iSl f lo hi env = (opd f env).bind fun p => (lo p.2).bind fun q => (hi q.2).bind fun r => (look r.2 p.1).bind fun d => (gSl d q.1 r.1).bind fun z => some (z, r.2) := rfl
@[simp] theorem iNoP_ap : iNoP env = some (none, env) := rfl
@[simp] theorem iPart_ap : iPart f env = (f env).bind fun p => (isI p.1).bind fun i => some (some i, p.2) := rfl
@[simp] theorem iIsi_ap {T : String} : iIsi T f env = (opd f env).bind fun p => (look p.2 p.1).bind fun d => (isiD T d).bind fun b => some (.val (.bool b), p.2) := rfl
@[simp] theorem iChn_ap {o o' : D → D → Option Res} : iChn o o' fa fb fc env = (opd fa env).bind fun p => (opd fb p.2).bind fun q => (look q.2 p.1).bind fun d => (look q.2 q.1).bind fun e => (o d e).bind fun r => (isB r).bind fun b =>
  if b = true then (opd fc q.2).bind fun s => (look s.2 q.1).bind fun e' => (look s.2 s.1).bind fun f => (o' e' f).bind fun r' => some (r', s.2) else some (.val (.bool false), q.2) := rfl
/-! operations -/
@[simp] theorem gAdd_int : gAdd (.int i) (.int j) = some (.val (.int (i + j))) := rfl
@[simp] theorem gAdd_str {x y : Str} : gAdd (.str x) (.str y) = if x.length + y.length ≤ 100000 then some (.val (.str (x ++ y))) else none := by
  unfold gAdd alt oI gAddS gCatT
  dsimp only
  split <;> simp_all
@[simp] theorem gAdd_tup {x y : List D} : gAdd (.tuple x) (.tuple y) = if x.length + y.length ≤ 100000 then some (.val (.tuple (x ++ y))) else none := rfl
@[simp] theorem gSub_int : DL.gSub (.int i) (.int j) = some (.val (.int (i - j))) := rfl
@[simp] theorem gMul_int : gMul (.int i) (.int j) = if mulC i j = true then some (.val (.int (i * j))) else none := by
  unfold gMul oI
  dsimp only
  split <;> rfl
@[simp] theorem gMulR_int : gMulR (.int i) (.int j) = if sm j = true then some (.val (.int (i * j))) else none := by
  unfold gMulR oI
  dsimp only
  split <;> rfl
@[simp] theorem gMulL_int : gMulL (.int i) (.int j) = if sm i = true then some (.val (.int (i * j))) else none := by
  unfold gMulL oI
  dsimp only
  split <;> rfl
@[simp] theorem gDiv_int : gDiv (.int i) (.int j) = if 0 < j ∧ j < 2 ^ 64 then some (.val (.int (i / j))) else none := by
  unfold gDiv oI
  simp only [Bool.and_eq_true, decide_eq_true_eq]
  split <;> rfl
@[simp] theorem gMod_int : gMod (.int i) (.int j) = if 0 < j then some (.val (.int (i % j))) else none := by
  unfold gMod oI
  simp only [decide_eq_true_eq]
  split <;> rfl
@[simp] theorem gPow_int : gPow (.int i) (.int j) = if 0 ≤ j ∧ j ≤ 1000 ∧ i.natAbs < 2 ^ 64 then some (.val (.int (i ^ j.toNat))) else none := by
  unfold gPow oI
  simp only [Bool.and_eq_true, decide_eq_true_eq, and_assoc]
  split <;> rfl
@[simp] theorem gNeg_int : gNeg (.int i) = some (.val (.int (-i))) := rfl
@[simp] theorem gLt_int : gLt (.int i) (.int j) = some (.val (.bool (decide (i < j)))) := rfl
@[simp] theorem gLe_int : gLe (.int i) (.int j) = some (.val (.bool (decide (i ≤ j)))) := rfl
@[simp] theorem gGt_int : gGt (.int i) (.int j) = some (.val (.bool (decide (j < i)))) := rfl
@[simp] theorem gGe_int : gGe (.int i) (.int j) = some (.val (.bool (decide (j ≤ i)))) := rfl
@[simp] theorem gEq_int : gEq (.int i) (.int j) = some (.val (.bool (decide (i = j)))) := rfl
@[simp] theorem gNe_int : gNe (.int i) (.int j) = some (.val (.bool (!decide (i = j)))) := rfl
@[simp] theorem gEq_str {x y : Str} : gEq (.str x) (.str y) = some (.val (.bool (decide (x = y)))) := rfl
@[simp] theorem gNe_str {x y : Str} : gNe (.str x) (.str y) = some (.val (.bool (!decide (x = y)))) := rfl
@[simp] theorem gEq_bool {x y : Bool} : gEq (.bool x) (.bool y) = some (.val (.bool (decide (x = y)))) := rfl
@[simp] theorem gNe_bool {x y : Bool} : gNe (.bool x) (.bool y) = some (.val (.bool (!decide (x = y)))) := rfl
@[simp] theorem gIs_ap : gIs d .none = some (.val (.bool (isNoneD d))) := rfl
@[simp] theorem gIsN_ap : gIsN d .none = some (.val (.bool (!isNoneD d))) := rfl
@[simp] theorem isNone_none : isNoneD .none = true := rfl
@[simp] theorem isNone_int : isNoneD (.int i) = false := rfl
@[simp] theorem isNone_tup {x : List D} : isNoneD (.tuple x) = false := rfl
@[simp] theorem isNone_str {x : Str} : isNoneD (.str x) = false := rfl
@[simp] theorem gIx_list {x : List D} : gIx (.list x) (.int i) = (atI x i).map .val := rfl
@[simp] theorem gIx_tup {x : List D} : gIx (.tuple x) (.int i) = (atI x i).map .val := rfl
@[simp] theorem gSl_tup {x : List D} {lo hi : Option Int} : gSl (.tuple x) lo hi = some (.val (.tuple (cutD x lo hi))) := rfl
@[simp] theorem gSl_list {x : List D} {lo hi : Option Int} : gSl (.list x) lo hi = some (.new (.list (cutD x lo hi))) := rfl
@[simp] theorem c1_ap {o : D → Option Res} : c1 o [d] = o d := rfl
@[simp] theorem gLen_list {x : List D} : gLen (.list x) = some (.val (.int (x.length : Int))) := rfl
@[simp] theorem gLen_tup {x : List D} : gLen (.tuple x) = some (.val (.int (x.length : Int))) := rfl
@[simp] theorem gInt_int : gInt (.int i) = some (.val (.int i)) := rfl
@[simp] theorem gList_list {x : List D} : gList (.list x) = some (.new (.list x)) := rfl
@[simp] theorem gList_tup {x : List D} : gList (.tuple x) = some (.new (.list x)) := rfl
@[simp] theorem gTuple_list {x : List D} : gTuple (.list x) = some (.val (.tuple x)) := rfl
@[simp] theorem gTuple_tup {x : List D} : gTuple (.tuple x) = some (.val (.tuple x)) := rfl
@[simp] theorem truD_none : truD .none = some false := rfl
@[simp] theorem truD_bool {b : Bool} : truD (.bool b) = some b := rfl
@[simp] theorem truD_int : truD (.int i) = some (i != 0) := rfl
@[simp] theorem truD_list {x : List D} : truD (.list x) = some (!x.isEmpty) := rfl
@[simp] theorem truD_tup {x : List D} : truD (.tuple x) = some (!x.isEmpty) := rfl
@[simp] theorem isi_int_int : isiD "int" (.int i) = some true := by show kitB "int" "int" = _; decide +kernel
@[simp] theorem isi_int_tup {x : List D} : isiD "int" (.tuple x) = some false := by show kitB "tuple" "int" = _; decide +kernel
@[simp] theorem isi_bool_bool {b : Bool} : isiD "bool" (.bool b) = some true := by show kitB "bool" "bool" = _; decide +kernel
@[simp] theorem isi_tup_tup {x : List D} : isiD "tuple" (.tuple x) = some true := by show kitB "tuple" "tuple" = _; decide +kernel
@[simp] theorem isi_list_list {x : List D} : isiD "list" (.list x) = some true := by show kitB "list" "list" = _; decide +kernel
@[simp] theorem isi_bool_int : isiD "bool" (.int i) = some false := by show kitB "int" "bool" = _; decide +kernel
/-! statements -/
theorem iSeq_next (h : s env = some (.next e)) : iSeq s u env = u e := by unfold iSeq; rw [h]
theorem iSeq_ret (h : s env = some (.ret r e)) : iSeq s u env = some (.ret r e) := by unfold iSeq; rw [h]
@[simp] theorem iNext_ap : iNext env = some (.next env) := rfl
@[simp] theorem iRet_val (h : f env = some (.val d, e)) : iRet f env = some (.ret (.val d) e) := by unfold iRet; rw [h]; rfl
@[simp] theorem iRet_new (h : f env = some (.new d, e)) : iRet f env = some (.ret (.new d) e) := by unfold iRet; rw [h]; rfl
theorem iIfS_true (h : c env = some (true, e)) : iIfS c s u env = s e := by unfold iIfS; rw [h]; rfl
theorem iIfS_false (h : c env = some (false, e)) : iIfS c s u env = u e := by unfold iIfS; rw [h]; rfl
theorem iAsg_val {ow : Bool} (h : f env = some (.val d, e)) (k : setV e n (.val d) = some env') : iAsg ow n f env = some (.next env') := by unfold iAsg; rw [h]; simp [k]
theorem iAsg_new {ow : Bool} (h : f env = some (.new d, e)) (k : setV e n (if ow then .own false d else .val d) = some env') : iAsg ow n f env = some (.next env') := by unfold iAsg; rw [h]; simp [k]
end
/-! ### what a body comes to -/
def Ret (P : Res → Nv → Prop) (o : Option Fl) : Prop := ∃ r e, o = some (.ret r e) ∧ P r e
def Nxt (P : Nv → Prop) (o : Option Fl) : Prop := ∃ e, o = some (.next e) ∧ P e
/-- it returns so, or goes on so -/
def RetOr (P : Res → Nv → Prop) (N : Nv → Prop) (o : Option Fl) : Prop := Ret P o ∨ Nxt N o
section
variable {s u : StF} {env e : Nv} {P N : Nv → Prop} {Q : Res → Nv → Prop} {W : Option Fl → Prop} {c : EvT} {f : EvF} {d : D} {n : Nat} {b : Bool}
theorem seq_ret (P : Nv → Prop) (h : Nxt P (s env)) (k : ∀ e, P e → Ret Q (u e)) : Ret Q (iSeq s u env) := by
  obtain ⟨e, h1, h2⟩ := h
  rw [iSeq_next h1]
  exact k e h2
theorem seq_nxt (P : Nv → Prop) (h : Nxt P (s env)) (k : ∀ e, P e → Nxt N (u e)) : Nxt N (iSeq s u env) := by
  obtain ⟨e, h1, h2⟩ := h
  rw [iSeq_next h1]
  exact k e h2
theorem seq_or (P : Nv → Prop) (h : RetOr Q P (s env)) (k : ∀ e, P e → Ret Q (u e)) : Ret Q (iSeq s u env) := by
  rcases h with ⟨r, e, h1, h2⟩ | h
  · exact ⟨r, e, iSeq_ret h1, h2⟩
  · exact seq_ret P h k
/-- a statement that is known -/
theorem seq_is (h : s env = some (.next e)) (k : W (u e)) : W (iSeq s u env) := by rw [iSeq_next h]; exact k
theorem if_b (h : c env = some (b, e)) (k1 : b = true → W (s e)) (k2 : b = false → W (u e)) : W (iIfS c s u env) := by
  cases b with
  | true => rw [iIfS_true h]; exact k1 rfl
  | false => rw [iIfS_false h]; exact k2 rfl
/-- a test told by a proposition -/
theorem if_p {p : Prop} [Decidable p] (h : c env = some (decide p, e)) (k1 : p → W (s e)) (k2 : ¬ p → W (u e)) : W (iIfS c s u env) :=
  if_b h (fun z => k1 (of_decide_eq_true z)) fun z => k2 (of_decide_eq_false z)
theorem ret_val (h : f env = some (.val d, e)) (q : Q (.val d) e) : Ret Q (iRet f env) := ⟨_, _, iRet_val h, q⟩
theorem ret_new (h : f env = some (.new d, e)) (q : Q (.new d) e) : Ret Q (iRet f env) := ⟨_, _, iRet_new h, q⟩
theorem ret_own (h : f env = some (.own n, e)) (k : e[n]? = some (.own false d)) (q : Q (.new d) (e.set n .no)) : Ret Q (iRet f env) := by
  refine ⟨_, _, ?_, q⟩
  unfold iRet
  rw [h]
  simp [k]
theorem asg_val {ow : Bool} {e' : Nv} (h : f env = some (.val d, e)) (k : setV e n (.val d) = some e') (p : P e') : Nxt P (iAsg ow n f env) := ⟨_, iAsg_val h k, p⟩
theorem asg_new {ow : Bool} {e' : Nv} (h : f env = some (.new d, e)) (k : setV e n (if ow then .own false d else .val d) = some e') (p : P e') : Nxt P (iAsg ow n f env) := ⟨_, iAsg_new h k, p⟩
theorem nxt_here (p : P env) : Nxt P (iNext env) := ⟨_, rfl, p⟩
/-- a def of this body -/
theorem run_of {n N : Nat} {g : StF} {sls : List Sl} {P : Res → List Sl → Prop} (h : Ret (fun r e => notOwnR r = true ∧ ∃ o, outs sls e = some o ∧ P r o) (g (sls ++ List.replicate (N - n) .no))) (hn : sls.length = n := by rfl) (h2 : n ≤ N := by decide) (hp : parOnly sls = true := by rfl) :
    ∃ r o, runDef n N g sls = some (r, o) ∧ P r o := by
  obtain ⟨r, e, h1, h3, o, h4, h5⟩ := h
  refine ⟨r, o, ?_, h5⟩
  unfold runDef
  rw [if_pos ⟨hn, h2, hp⟩, h1]
  simp [h3, h4]
/-- .. whose arguments are values -/
theorem run_val {n N : Nat} {g : StF} {sls : List Sl} {P : D → Prop} (h : Ret (fun r e => ∃ d, r = .val d ∧ outs sls e = some sls ∧ P d) (g (sls ++ List.replicate (N - n) .no))) (hn : sls.length = n := by rfl) (h2 : n ≤ N := by decide) (hp : parOnly sls = true := by rfl) :
    ∃ d, runDef n N g sls = some (.val d, sls) ∧ P d := by
  obtain ⟨r, e, h1, d, rfl, h4, h5⟩ := h
  refine ⟨d, ?_, h5⟩
  unfold runDef
  rw [if_pos ⟨hn, h2, hp⟩, h1]
  simp [h4, notOwnR]
theorem run_eq {n N : Nat} {g : StF} {sls : List Sl} {d : D} (h : Ret (fun r e => r = .val d ∧ outs sls e = some sls) (g (sls ++ List.replicate (N - n) .no))) (hn : sls.length = n := by rfl) (h2 : n ≤ N := by decide) (hp : parOnly sls = true := by rfl) : runDef n N g sls = some (.val d, sls) := by
  obtain ⟨r, e, h1, rfl, h4⟩ := h
  unfold runDef
  rw [if_pos ⟨hn, h2, hp⟩, h1]
  simp [h4, notOwnR]
theorem run_new {n N : Nat} {g : StF} {sls : List Sl} {d : D} (h : Ret (fun r e => r = .new d ∧ outs sls e = some sls) (g (sls ++ List.replicate (N - n) .no))) (hn : sls.length = n := by rfl) (h2 : n ≤ N := by decide) (hp : parOnly sls = true := by rfl) : runDef n N g sls = some (.new d, sls) := by
  obtain ⟨r, e, h1, rfl, h4⟩ := h
  unfold runDef
  rw [if_pos ⟨hn, h2, hp⟩, h1]
  simp [h4, notOwnR]
end
theorem opd_is {f : EvF} {env e : Nv} {r : Res} (h : f env = some (r, e)) : opd f env = some (pub r, e) := by unfold opd; rw [h]; rfl
section
variable {f fa fb : EvF} {c t : EvT} {env e e1 e2 : Nv} {r : Res} {d d' : D} {b : Bool}
theorem opd_val (h : f env = some (.val d, e)) : opd f env = some (.val d, e) := opd_is h
theorem opd_new (h : f env = some (.new d, e)) : opd f env = some (.val d, e) := opd_is h
theorem bop_is {g : D → D → Option Res} (ha : opd fa env = some (.val d, e1)) (hb : opd fb e1 = some (.val d', e2)) (hg : g d d' = some r) : iBin g fa fb env = some (r, e2) := by
  unfold iBin
  rw [ha]
  show ((opd fb e1).bind _) = _
  rw [hb]
  show ((g d d').bind _) = _
  rw [hg]
  rfl
theorem chn_t {g g' : D → D → Option Res} {fc : EvF} {d'' : D} {e3 : Nv} (ha : opd fa env = some (.val d, e1)) (hb : opd fb e1 = some (.val d', e2)) (hg : g d d' = some (.val (.bool true))) (hc : opd fc e2 = some (.val d'', e3)) (hg' : g' d' d'' = some r) : iChn g g' fa fb fc env = some (r, e3) := by
  unfold iChn
  rw [ha]
  show ((opd fb e1).bind _) = _
  rw [hb]
  show ((g d d').bind _) = _
  rw [hg]
  show ((opd fc e2).bind _) = _
  rw [hc]
  show ((g' d' d'').bind _) = _
  rw [hg']
  rfl
theorem tst_is (h : f env = some (.val (.bool b), e)) : iTst f env = some (b, e) := by unfold iTst; rw [h]; rfl
theorem tru_is (h : opd f env = some (.val d, e)) (k : truD d = some b) : iTru f env = some (b, e) := by
  unfold iTru
  rw [h]
  show ((truD d).bind _) = _
  rw [k]
  rfl
theorem notT_is (h : c env = some (b, e)) : iNotT c env = some (!b, e) := by unfold iNotT; rw [h]; rfl
theorem andT_t (h : c env = some (true, e)) : iAndT c t env = t e := by unfold iAndT; rw [h]; rfl
theorem andT_f (h : c env = some (false, e)) : iAndT c t env = some (false, e) := by unfold iAndT; rw [h]; rfl
theorem orT_t (h : c env = some (true, e)) : iOrT c t env = some (true, e) := by unfold iOrT; rw [h]; rfl
theorem orT_f (h : c env = some (false, e)) : iOrT c t env = t e := by unfold iOrT; rw [h]; rfl
theorem and_t (h : fa env = some (.val (.bool true), e)) : iAnd fa fb env = fb e := by unfold iAnd; rw [h]; rfl
theorem and_f (h : fa env = some (.val (.bool false), e)) : iAnd fa fb env = some (.val (.bool false), e) := by unfold iAnd; rw [h]; rfl
theorem not_is (h : fa env = some (.val (.bool b), e)) : iNot fa env = some (.val (.bool (!b)), e) := by unfold iNot; rw [h]; rfl
theorem cb_is {g : D → Option Res} (h : opd f env = some (.val d, e)) (k : g d = some r) : iCB (c1 g) (argC f argN) env = some (r, e) := by
  unfold iCB argC
  rw [h]
  show ((g d).bind _) = _
  rw [k]
  rfl
theorem tup1_is {d1 : D} (h1 : opd f env = some (.val d1, e1)) : DL.iTup (argC f argN) env = some (.val (.tuple [d1]), e1) := by
  have q : argC f argN env = some ([.val d1], e1) := by unfold argC; rw [h1]; rfl
  unfold DL.iTup
  rw [q]
  rfl
theorem tup2_is {d1 d2 : D} (h1 : opd f env = some (.val d1, e1)) (h2 : opd fa e1 = some (.val d2, e2)) : DL.iTup (argC f (argC fa argN)) env = some (.val (.tuple [d1, d2]), e2) := by
  have q : argC f (argC fa argN) env = some ([.val d1, .val d2], e2) := by
    unfold argC
    rw [h1]
    show (((opd fa e1).bind _).bind _) = _
    rw [h2]
    rfl
  unfold DL.iTup
  rw [q]
  rfl
theorem isi_is {T : String} (h : opd f env = some (.val d, e)) (k : isiD T d = some b) : iIsi T f env = some (.val (.bool b), e) := by
  unfold iIsi
  rw [h]
  show ((isiD T d).bind _) = _
  rw [k]
  rfl
end
/-! ### calls whose arguments are values -/
def vals : List D → List Res := List.map .val
theorem sls_vals {env : Nv} : ∀ {ds : List D}, slsOf env (vals ds) = some (ds.map .val)
  | [] => rfl
  | d :: ds => by
    show (slsOf env (vals ds)).bind _ = _
    rw [sls_vals]
    rfl
theorem dup_vals : ∀ {ds : List D}, dupFree (vals ds) = true
  | [] => rfl
  | d :: ds => dup_vals (ds := ds)
theorem back1_vals : ∀ {ds : List D} {ss : List Sl} {i : Nat}, back1 i (vals ds) ss = none
  | [], _, _ => rfl
  | d :: ds, [], _ => rfl
  | d :: ds, s :: ss, i => back1_vals (ds := ds) (ss := ss) (i := i)
theorem back_vals {ds : List D} {ss : List Sl} {env : Nv} : back (vals ds) ss env = env := by
  apply List.ext_getElem?
  intro i
  rw [back_at]
  cases env[i]? with
  | none => rfl
  | some s =>
    cases s with
    | no => rfl
    | val _ => rfl
    | own p d =>
      show some (match back1 i (vals ds) ss with
        | some d' => Sl.own p d'
        | none => Sl.own p d) = _
      rw [back1_vals]
theorem call_vals {g : Fn} {fs : EvA} {env e : Nv} {ds : List D} {r : Res} {o : List Sl} (h : fs env = some (vals ds, e)) (hg : g (ds.map .val) = some (r, o)) (hr : notOwnR r = true) : iCall g fs env = some (r, e) := by
  unfold iCall
  rw [h]
  simp [sls_vals, dup_vals, hg, hr, back_vals]
theorem call1 {g : Fn} {f : EvF} {env e : Nv} {d : D} {r : Res} {o : List Sl} (h : opd f env = some (.val d, e)) (hg : g [.val d] = some (r, o)) (hr : notOwnR r = true := by rfl) : iCall g (argC f argN) env = some (r, e) :=
  call_vals (ds := [d]) (by simp only [argC_ap, h, argN_ap, Option.bind_some]; rfl) hg hr
theorem call2 {g : Fn} {f f2 : EvF} {env e e2 : Nv} {d d2 : D} {r : Res} {o : List Sl} (h : opd f env = some (.val d, e)) (h2 : opd f2 e = some (.val d2, e2)) (hg : g [.val d, .val d2] = some (r, o)) (hr : notOwnR r = true := by rfl) : iCall g (argC f (argC f2 argN)) env = some (r, e2) :=
  call_vals (ds := [d, d2]) (by simp only [argC_ap, h, h2, argN_ap, Option.bind_some]; rfl) hg hr
theorem call3 {g : Fn} {f f2 f3 : EvF} {env e e2 e3 : Nv} {d d2 d3 : D} {r : Res} {o : List Sl} (h : opd f env = some (.val d, e)) (h2 : opd f2 e = some (.val d2, e2)) (h3 : opd f3 e2 = some (.val d3, e3)) (hg : g [.val d, .val d2, .val d3] = some (r, o)) (hr : notOwnR r = true := by rfl) :
    iCall g (argC f (argC f2 (argC f3 argN))) env = some (r, e3) :=
  call_vals (ds := [d, d2, d3]) (by simp only [argC_ap, h, h2, h3, argN_ap, Option.bind_some]; rfl) hg hr
/-- simp's form: arguments one by one -/
@[simp] theorem iCall1_ap {g : Fn} {f : EvF} {env : Nv} : iCall g (argC f argN) env = (opd f env).bind fun p => (slsOf p.2 [p.1]).bind fun ss => if dupFree [p.1] = true then (g ss).bind fun q => if notOwnR q.1 = true then some (q.1, back [p.1] q.2 p.2) else none else none := by
  unfold iCall
  simp only [argC_ap, argN_ap]
  cases opd f env <;> rfl
/-! ### loops -/
def Free (w : Sl) : Prop := ∀ d, w ≠ .own true d
theorem free_no : Free .no := fun d z => by cases z
theorem free_val {d : D} : Free (.val d) := fun d z => by cases z
theorem free_own {d : D} : Free (.own false d) := fun d z => by cases z
theorem setV_free {env : Nv} {i : Nat} {w s : Sl} (h : env[i]? = some w) (f : Free w) : setV env i s = some (env.set i s) := by
  unfold setV
  rw [h]
  cases w with
  | no => rfl
  | val _ => rfl
  | own p d => cases p with
    | true => exact absurd rfl (f d)
    | false => rfl
theorem floop_nxt {tg : TgF} {body : StF} : ∀ (ds : List D) (I : Nat → Nv → Prop) (k : Nat) (env : Nv), I k env → (∀ i d e, ds[i]? = some d → I (k + i) e → ∃ e1, tg e d = some e1 ∧ Nxt (I (k + i + 1)) (body e1)) → Nxt (I (k + ds.length)) (floop tg body ds env)
  | [], I, k, env, h, _ => ⟨env, rfl, h⟩
  | d :: ds, I, k, env, h, st => by
    obtain ⟨e1, h1, e2, h2, h3⟩ := st 0 d env rfl h
    have rec' := floop_nxt ds I (k + 1) e2 h3 fun i d e hd hi => by
      have := st (i + 1) d e hd (by rw [show k + (i + 1) = k + 1 + i by omega]; exact hi)
      rw [show k + (i + 1) + 1 = k + 1 + i + 1 by omega] at this
      exact this
    rw [show k + 1 + ds.length = k + (d :: ds).length by rw [List.length_cons]; omega] at rec'
    obtain ⟨e3, h4, h5⟩ := rec'
    refine ⟨e3, ?_, h5⟩
    simp only [floop, h1, Option.bind_some, h2]
    exact h4
/-- a loop that may leave by a return -/
theorem floop_or {tg : TgF} {body : StF} {Q : Res → Nv → Prop} : ∀ (ds : List D) (I : Nat → Nv → Prop) (k : Nat) (env : Nv), I k env → (∀ i d e, ds[i]? = some d → I (k + i) e → ∃ e1, tg e d = some e1 ∧ RetOr Q (I (k + i + 1)) (body e1)) → RetOr Q (I (k + ds.length)) (floop tg body ds env)
  | [], I, k, env, h, _ => .inr ⟨env, rfl, h⟩
  | d :: ds, I, k, env, h, st => by
    obtain ⟨e1, h1, h2⟩ := st 0 d env rfl h
    rcases h2 with ⟨r, e2, h2, h3⟩ | ⟨e2, h2, h3⟩
    · exact .inl ⟨r, e2, by simp only [floop, h1, Option.bind_some, h2], h3⟩
    have rec' := floop_or ds I (k + 1) e2 h3 fun i d e hd hi => by
      have := st (i + 1) d e hd (by rw [show k + (i + 1) = k + 1 + i by omega]; exact hi)
      rw [show k + (i + 1) + 1 = k + 1 + i + 1 by omega] at this
      exact this
    rw [show k + 1 + ds.length = k + (d :: ds).length by rw [List.length_cons]; omega] at rec'
    have e0 : floop tg body (d :: ds) env = floop tg body ds e2 := by simp only [floop, h1, Option.bind_some, h2]
    rw [e0]
    exact rec'
theorem for_nxt {it : ItF} {tg : TgF} {body : StF} {env e : Nv} {ds : List D} {N : Nv → Prop} (I : Nat → Nv → Prop) (hi : it env = some (ds, e)) (h0 : I 0 e) (st : ∀ i d e, ds[i]? = some d → I i e → ∃ e1, tg e d = some e1 ∧ Nxt (I (i + 1)) (body e1)) (hd : ∀ e, I ds.length e → N e) : Nxt N (iFor it tg body env) := by
  unfold iFor
  rw [hi]
  have h := floop_nxt (tg := tg) (body := body) ds I 0 e h0 fun i d e hd h => by
    rw [Nat.zero_add] at h ⊢
    exact st i d e hd h
  rw [Nat.zero_add] at h
  obtain ⟨e2, h1, h2⟩ := h
  exact ⟨e2, h1, hd e2 h2⟩
theorem for_or {it : ItF} {tg : TgF} {body : StF} {env e : Nv} {ds : List D} {N : Nv → Prop} {Q : Res → Nv → Prop} (I : Nat → Nv → Prop) (hi : it env = some (ds, e)) (h0 : I 0 e) (st : ∀ i d e, ds[i]? = some d → I i e → ∃ e1, tg e d = some e1 ∧ RetOr Q (I (i + 1)) (body e1)) (hd : ∀ e, I ds.length e → N e) : RetOr Q N (iFor it tg body env) := by
  unfold iFor
  rw [hi]
  have h := floop_or (tg := tg) (body := body) (Q := Q) ds I 0 e h0 fun i d e hd h => by
    rw [Nat.zero_add] at h ⊢
    exact st i d e hd h
  rw [Nat.zero_add] at h
  rcases h with h | ⟨e2, h1, h2⟩
  · exact .inl h
  · exact .inr ⟨e2, h1, hd e2 h2⟩
theorem rng_get {lo : Int} {n i : Nat} {d : D} (h : (rngD lo n)[i]? = some d) : d = .int (lo + (i : Int)) ∧ i < n := by
  have hi := (List.getElem?_eq_some_iff.mp h).1
  rw [rngD_len] at hi
  rw [rngD_get hi] at h
  exact ⟨(Option.some.inj h).symm, hi⟩
theorem smR_is {n : Nat} (h : n ≤ 1000000) : smR (n : Int) = true := by
  simp only [smR, Bool.and_eq_true, decide_eq_true_eq]
  omega
theorem r1_is {f : EvF} {env e : Nv} {n : Nat} (h : opd f env = some (.val (.int (n : Int)), e)) (hn : n ≤ 1000000) : iR1 (argC f argN) env = some (rngD 0 n, e) := by
  have q : argC f argN env = some ([.val (.int (n : Int))], e) := by
    unfold argC argN
    rw [h]
    rfl
  unfold iR1
  rw [q]
  exact if_pos (smR_is hn)
theorem app_is {f : EvF} {env e : Nv} {i : Nat} {d : D} {p p0 : Bool} {ds ds0 : List D} (h0 : env[i]? = some (.own p0 (.list ds0))) (h : opd f env = some (.val d, e)) (h1 : e[i]? = some (.own p (.list ds))) (hz : ds.length < 100000) : iApp i f env = some (.next (e.set i (.own p (.list (ds ++ [d]))))) := by
  unfold iApp
  rw [h0]
  simp only [h, Option.bind_some, vis_val, h1, hz, if_true]
end DL

/-! enumerate over a tuple; a list or a tuple backwards; a tuple at a list's end. -/
namespace L2
open PySem PySem.Spec PyProof.Rows
open Sem (wp)
open AutoSeq1 (wpAny_loadPart')
theorem meets_enumerate_newT (l : Addr) (items : Array Value) (n : Nat) (dct : Option Addr) (sl : Array (Option Value)) :
    Meets (Builtin.«enumerate.__new__» ⟨[.type "enumerate", .ref l], []⟩) (fun _ R s => s.heap.get? l = some { cls := .type "tuple", dict := dct, data := .seq items n, slots := sl } ∧
      R (.ok (.ret (.ref (s.heap.push { cls := .type "tuple_iterator", data := .fields #[.ref l, .int 0 0] }).objs.size)))
        { s with heap := (s.heap.push { cls := .type "tuple_iterator", data := .fields #[.ref l, .int 0 0] }).push { cls := .type "enumerate", data := .fields #[.none, .bool false, .ref s.heap.objs.size, rawInt 0, .none, .none] } }) :=
  .of_wp fun prog w A R s h => by
    obtain ⟨hp, g, d, tk, os⟩ := s; obtain ⟨hl, h⟩ := h
    have hsub := sub_enumerate
    have hL : Heap.IsTuple (Shared.heap ⟨hp, g, d, tk, os⟩) l items := ⟨_, hl, rfl, n, rfl⟩
    wp_walk using wpAny_loadPart' hl
    refine wpAny_stack_any fun st => wpAny_pure ?_
    split
    · rename_i c _ _ _ _ _
      cases (c == Value.type "enumerate")
      · wp_walk using wpAny_loadPart' hl, wpAny_pyIter_tuple hL
        exact ⟨_, rfl, h⟩
      · wp_walk using wpAny_loadPart' hl, wpAny_pyIter_tuple hL
        exact ⟨_, rfl, h⟩
    · wp_walk using wpAny_loadPart' hl, wpAny_pyIter_tuple hL
      exact ⟨_, rfl, h⟩
section
variable {prog : Program} {w : World} {A : Around} {E : Value → Shared → Prop} {s : Shared}
theorem call_enumerate_tuple {l : Addr} {items : Array Value} {Q : Value → Shared → Prop} (hL : s.heap.IsTuple l items)
    (h : ∀ h', IsEnum h' (s.heap.objs.size + 1) s.heap.objs.size 0 .none → h'.IsTupleIter s.heap.objs.size l 0 →
      (∀ b o, s.heap.get? b = some o → h'.get? b = some o) → Q (.ref (s.heap.objs.size + 1)) { s with heap := h' }) :
    wpAny (model prog w) A (call (.type "enumerate") [.ref l]) Q E s := by
  obtain ⟨⟨c, dct, dt, sl⟩, hl, hc, n, hd⟩ := hL
  replace hc : c = .type "tuple" := hc
  replace hd : dt = .seq items n := hd
  subst hc hd
  refine callType_new F.called_enumerate (by decide) (F.typeCall_enumerate_1 _) (F.newCall_enumerate_1 _) (fun obj => F.args_object_init_2 obj _) F.entry_enumerate_new
    (meets_enumerate_newT l items n dct sl) ⟨hl, ?_⟩
  have hz : (s.heap.push { cls := .type "tuple_iterator", data := .fields #[.ref l, .int 0 0] }).objs.size = s.heap.objs.size + 1 := Heap.size_push ..
  show _ ∧ _
  rw [hz]
  have he : IsEnum ((s.heap.push { cls := .type "tuple_iterator", data := .fields #[.ref l, .int 0 0] }).push
      { cls := .type "enumerate", data := .fields #[.none, .bool false, .ref s.heap.objs.size, rawInt 0, .none, .none] }) (s.heap.objs.size + 1) s.heap.objs.size 0 .none := by
    have := Heap.get?_push_size (s.heap.push { cls := .type "tuple_iterator", data := .fields #[.ref l, .int 0 0] })
      (o := { cls := .type "enumerate", data := .fields #[.none, .bool false, .ref s.heap.objs.size, rawInt 0, .none, .none] }) rfl
    rw [hz] at this; exact this
  refine ⟨⟨_, he, rfl⟩, h _ he ⟨_, Heap.get?_push_of_some _ (Heap.get?_push_size _ rfl), rfl, rfl⟩ fun b o x => Heap.get?_push_of_some _ (Heap.get?_push_of_some _ x)⟩
end
/-- the tuple at a, each item in a new pair -/
def IteT (K : PySem.W.Frag) (a : Addr) : It :=
  ⟨fun i H => ∃ (xs : List V) (x : V), SqT K H a xs ∧ xs[i]? = some x, fun i H v H' => ∃ T x, v = .ref T ∧ H T = none ∧ H' = upd H T (.tup [.int (i : Nat), x]) ∧ ∀ xs, SqT K H a xs → xs[i]? = some x, fun i H => ∃ xs : List V, SqT K H a xs ∧ xs.length = i⟩
theorem enum_ne {h : Heap} {e it a : Addr} {i : Int} {old : Value} {items : Array Value} (he : IsEnum h e it i old) (p : h.IsTuple a items) : e ≠ a := by
  intro z
  subst z
  obtain ⟨o, h1, h2, _⟩ := p
  rw [show h.get? e = some _ from he] at h1
  cases h1
  have q := Value.type.inj h2
  exact absurd q (by decide)
theorem titer_ne {h : Heap} {it a b : Addr} {i : Nat} {items : Array Value} (hi : h.IsTupleIter it b i) (p : h.IsTuple a items) : a ≠ it := by
  intro z
  subst z
  obtain ⟨o, h1, h2, _⟩ := p
  obtain ⟨o', g1, g2, _⟩ := hi
  rw [g1] at h1
  cases h1
  rw [g2] at h2
  have q := Value.type.inj h2
  exact absurd q (by decide)
theorem turn_enumT {P : Program} {w : World} {K : PySem.W.Frag} {elts : List Expr} {kk : Nat} {tpos : Pos} (a e it : Addr) :
    Turn P w K (.Tuple elts kk tpos) (IteT K a) [e, it] e (fun i h => (∃ old, IsEnum h e it ((i : Nat) : Int) old) ∧ h.IsTupleIter it a i ∧ e ≠ it) where
  mem := by simp
  obj := fun i h st b hb => by
    obtain ⟨⟨old, he⟩, ⟨o, ho, hc, hd⟩, _⟩ := st
    have e' : b = e ∨ b = it := by simpa using hb
    rcases e' with z | z
    · rw [z]; exact ⟨_, he, fun v q => nomatch q⟩
    · rw [z]; exact ⟨o, ho, fun v q => by rw [hd] at q; cases q⟩
  keep := fun i h h' st k => let ⟨⟨old, he⟩, hi, hne⟩ := st; ⟨⟨old, k e (by simp) _ he⟩, hi.at fun o q => k it (by simp) o q, hne⟩
  item := by
    intro X hP hw hK hc i pins s σ H E I hf st hg
    subst hP hw hK
    obtain ⟨⟨old, he⟩, hit, hne⟩ := st
    obtain ⟨xs, x, hq, hx⟩ := hg
    obtain ⟨its, rv, p, hz⟩ := I.tuple hq
    have p' : s.heap.IsTuple a its.toArray := p
    obtain ⟨u, hu, ru⟩ := rv.get hx
    have hil := (List.getElem?_eq_some_iff.mp hu).1
    have hel : e < s.heap.objs.size := Heap.lt_size he
    have hil2 : it < s.heap.objs.size := by obtain ⟨_, q, _⟩ := hit; exact Heap.lt_size q
    have D := Draws.tuple (prog := X.prog) (w := X.w) (A := X.A.in1) (show X.A.in1.handled = none from I.ok.hd hc) it a (titer_ne hit p') its.toArray
    have hef : e ∉ [it, a] := by
      intro z
      rcases List.mem_cons.mp z with z | z
      · exact hne z
      · exact enum_ne he p' (List.mem_singleton.mp z)
    refine wpAny_pyNext_enum_itemD D he ⟨hit, p'⟩ (by rw [List.size_toArray]; exact hil) hne hef fun x' h' tk hP' ho hit' hT hsz hk => ?_
    have hx' : x' = u := by
      have : its.toArray[i]? = some x' := hP'
      rw [List.getElem?_toArray, hu] at this
      exact (Option.some.inj this).symm
    subst hx'
    refine ⟨_, rfl, wpAny_letOwnedTupleGo_enum (s := { s with heap := h', toks := tk + 1 }) ho fun h'' he' sb => ?_⟩
    have hT2 : h''.get? s.heap.objs.size = some { cls := .type "tuple", data := .seq #[.int i tk, x'] } := (sb.2 _ (Nat.ne_of_gt hel)).trans hT
    have new : ObjOk X.prog X.w (upd H s.heap.objs.size (.tup [.int (i : Nat), x])) h'' s.heap.objs.size (.tup [.int (i : Nat), x]) :=
      ⟨by show 2 ≤ sizeLine; decide, [.int i tk, x'], .cons ⟨_, rfl⟩ (.cons ru .nil), ⟨_, hT2, rfl, _, rfl⟩⟩
    have I1 : Inv X pins σ (upd H s.heap.objs.size (.tup [.int (i : Nat), x])) { s with heap := h'', toks := tk + 1 } :=
      I.turnedNew (ch := [e, it]) (fun b ob hb q => (sb.2 b (fun z => hb (by simp [z]))).trans (hk b ob (fun z => hb (by simp [z])) (fun z => hb (by simp [z])) q)) hf (Nat.le_refl _) new
    refine ⟨.ref s.heap.objs.size, _, I1, rfl, ⟨_, x, rfl, I.hok.fresh (Nat.le_refl _), rfl, fun ys hy => by rw [I.tuple_inj hy hq]; exact hx⟩, ⟨⟨x', ?_⟩, hit'.1.at fun o q => (sb.2 it (Ne.symm hne)).trans q, hne⟩, fun b hb => ?_⟩
    · have e1 : ((i + 1 : Nat) : Int) = (i : Int) + 1 := by omega
      rw [e1]; exact he'
    · have hb' : b < s.heap.objs.size := by
        have e' : b = e ∨ b = it := by simpa using hb
        rcases e' with z | z
        · rw [z]; exact hel
        · rw [z]; exact hil2
      rw [upd_ne (Nat.ne_of_lt hb')]
      exact (hf b hb).1
  done := by
    intro X hP hw hK hc i pins s σ H E I hf st hg
    subst hP hw hK
    obtain ⟨⟨old, he⟩, hit, hne⟩ := st
    obtain ⟨xs, hq, hx⟩ := hg
    obtain ⟨its, rv, p, hz⟩ := I.tuple hq
    have p' : s.heap.IsTuple a its.toArray := p
    obtain ⟨f0, f1, f2, f3, f4, f5⟩ := hf it (by simp)
    have hl := rv.length
    have D := Draws.tuple (prog := X.prog) (w := X.w) (A := X.A.in1) (show X.A.in1.handled = none from I.ok.hd hc) it a (titer_ne hit p') its.toArray
    have hn : i = its.toArray.size := by rw [List.size_toArray]; omega
    subst hn
    exact wpAny_pyNext_enum_endD D he ⟨hit, p'⟩ fun h' eb => ⟨rfl, I.turned (t' := s.toks) (fun b o hb q => eb b o hb q) f0 f1 f3 f4 f5⟩
  self := fun A i s Q E st h => let ⟨⟨_, he⟩, _⟩ := st; wpAny_pyIter_enum he h
def iEnumT (K : PySem.W.Frag) (ta : TA) : TI := fun σ H R => ta σ H fun vs H1 => ∃ a xs, vs = [.ref a] ∧ SqT K H1 a xs ∧ R (IteT K a) H1
theorem pi_enumT {X : Cx} {e : Expr} {ta : TA} {p pos tpos : Pos} {elts : List Expr} {kk : Nat} (hg : Gl X "enumerate") (hm : X.mg "enumerate" = none) (ha : PA X [e] ta) (hs : starEach [e] X.env = [(false, eval e X.env)] := by rfl) :
    PI X (.Tuple elts kk tpos) (.Call (.Name "enumerate" p) [e] [] pos) (iEnumT X.K ta) := by
  refine ⟨fun pins s σ H R I h => ?_⟩
  refine Call_ (ld_blt I hg hm boot_enumerate (PyProof.Rows.callWith_type1 (thn (ha.run pos pins s σ H _ I h) fun us s1 ⟨vs, H1, I1, r1, q1⟩ => ?_) hs rfl))
  obtain ⟨a, xs, ex, hq, q⟩ := q1
  subst ex
  cases r1 with
  | cons r rr =>
    cases rr
    cases r
    obtain ⟨its, rv, p', hz⟩ := I1.tuple hq
    refine call_enumerate_tuple (show s1.heap.IsTuple a its.toArray from p') fun h' he hit hk => wpAny_pyIter_enum he ?_
    have I2 : Inv X pins σ H1 { s1 with heap := h' } := I1.kept (t' := s1.toks) hk
    refine ⟨s1.heap.objs.size + 1, [s1.heap.objs.size + 1, s1.heap.objs.size], _, _, H1, rfl, I2, turn_enumT a (s1.heap.objs.size + 1) s1.heap.objs.size, ⟨⟨.none, he⟩, hit, Nat.succ_ne_self _⟩, fun b hb => ?_, q⟩
    have e' : b = s1.heap.objs.size + 1 ∨ b = s1.heap.objs.size := by simpa using hb
    have hle : s1.heap.objs.size ≤ b := by
      rcases e' with z | z
      · rw [z]; exact Nat.le_add_right _ _
      · rw [z]; exact Nat.le_refl _
    exact I1.fpOk hle (I1.hok.fresh hle)
theorem walk_enumT {K : PySem.W.Frag} {a : Addr} {xs : List V} : Walk (IteT K a) xs.length (fun H => SqT K H a xs) (YPair (fun i => some (.int (i : Nat))) (fun i => xs[i]?)) := by
  refine ⟨fun i _ hi q => ⟨xs, xs[i], q, by simp [hi]⟩, fun _ q => ⟨xs, q, rfl⟩, fun i H v H' _ q y => ?_⟩
  obtain ⟨T, x, h1, h2, h3, h4⟩ := y
  exact ⟨T, .int (i : Nat), x, h1, h2, h3, rfl, h4 xs q⟩
end L2

namespace HT
open PySem PySem.Spec PyProof.Rows L2
section
variable {prog : Program} {w : World} {A : Around} {E : Value → Shared → Prop} {s : Shared}
theorem adjust_back (n : Nat) : Builtin.Slice.sliceAdjust none none (-1) (n : Int) = ((n : Int) - 1, -1) := by
  unfold Builtin.Slice.sliceAdjust
  simp
theorem places_back (n : Nat) : Builtin.Slice.slicePlaces ((n : Int) - 1) (-1) (-1) = n := by
  unfold Builtin.Slice.slicePlaces
  have h1 : ¬ ((-1 : Int) > 0) := by omega
  simp only [h1, if_false]
  rw [show (- -1 : Int) = 1 by decide, Int.ediv_one]
  split <;> omega
theorem pick_back (xs : Array Value) : ((List.range xs.size).filterMap fun (m : Nat) => xs[(((xs.size : Int) - 1) + (m : Int) * -1).toNat]?).toArray = xs.toList.reverse.toArray := by
  have e : (List.range xs.size).filterMap (fun (m : Nat) => xs[(((xs.size : Int) - 1) + (m : Int) * -1).toNat]?) = ((List.range xs.size).map fun k => xs.size - 1 - k).filterMap (xs[·]?) := by
    rw [List.filterMap_map]
    have cg : ∀ (l : List Nat) (f g : Nat → Option Value), (∀ m ∈ l, f m = g m) → l.filterMap f = l.filterMap g := by
      intro l f g
      induction l with
      | nil => intro _; rfl
      | cons m l ih =>
        intro h
        rw [List.filterMap_cons, List.filterMap_cons, h m List.mem_cons_self, ih fun z hz => h z (List.mem_cons_of_mem _ hz)]
    apply cg
    intro m hm
    have := List.mem_range.mp hm
    show xs[_]? = xs[xs.size - 1 - m]?
    have : (((xs.size : Int) - 1) + (m : Int) * -1).toNat = xs.size - 1 - m := by omega
    rw [this]
  rw [e, PySem.W.krv_range, List.filterMap_reverse, PySem.W.krv_all]
theorem sliceApplied_back {sl : Addr} {vs : Value} {n : Nat} {Q : Int × Int × Nat → Shared → Prop} (hs : s.heap.IsSliceOf sl .none .none vs) (ps : IsPart vs (some (-1)))
    (h : Q ((n : Int) - 1, -1, n) s) : wpAny (model prog w) A (Builtin.Slice.sliceApplied (.ref sl) (pure (n : Int))) Q E s := by
  obtain ⟨os, hos, hcs, hds⟩ := id hs
  unfold Builtin.Slice.sliceApplied Builtin.Slice.sliceFields
  refine wpAny_bind (wpAny_bind (wpAny_field hos hds (x := .none) rfl (wpAny_bind (wpAny_field hos hds (x := .none) rfl (wpAny_bind (wpAny_field hos hds (x := vs) rfl (wpAny_pure ?_)))))))
  refine wpAny_bind (slicePart_ ps ?_)
  show wpAny _ _ (if ((-1 : Int) == 0) = true then _ else _) _ _ s
  rw [if_neg (by decide)]
  refine wpAny_bind (slicePart_ .none (wpAny_bind (slicePart_ .none (wpAny_bind (wpAny_pure ?_)))))
  show wpAny _ _ (match Builtin.Slice.sliceAdjust none none (-1) (n : Int) with | (lo, hi) => pure (lo, (-1 : Int), Builtin.Slice.slicePlaces lo hi (-1))) _ _ s
  rw [adjust_back n]
  show wpAny _ _ (pure ((n : Int) - 1, (-1 : Int), Builtin.Slice.slicePlaces ((n : Int) - 1) (-1) (-1))) _ _ s
  rw [places_back]
  exact wpAny_pure h
theorem getItem_tuple_back {t sl : Addr} {items : Array Value} {vs : Value} {Q : Value → Shared → Prop} (ht : IsTup s.heap t items) (hs : s.heap.IsSliceOf sl .none .none vs) (ps : IsPart vs (some (-1)))
    (h : Q (.ref s.heap.objs.size) { s with heap := s.heap.push { cls := .type "tuple", data := .seq items.toList.reverse.toArray } })
    (hsz : items.size ≤ sizeLine) : wpAny (model prog w) A (getItem (.ref t) (.ref sl)) Q E s := by
  have htake : sizeOk (.seq items.toList.reverse.toArray) := by
    show items.toList.reverse.toArray.size ≤ sizeLine
    rw [List.size_toArray, List.length_reverse, Array.length_toList]
    exact hsz
  obtain ⟨os, hos, hcs, hds⟩ := id hs
  have hTs : s.TypeIs (.ref sl) "slice" := ⟨os, hos, hcs⟩
  unfold getItem
  try with_reducible refine wpAny_holding ?_
  first | refine wpAny_bind (wpAny_pure ?_) | skip
  refine wpAny_bind (wpAny_sequenceKey ht.typeIs (by decide) ?_)
  refine wpAny_bind (wpAny_callSpecial?_slot (name := Str.ofString "__getitem__") ht.typeIs PyProof.Rows.slot_tuple_getitem
    (wpAny_call_entry PyProof.Rows.slot_tuple_getitem ht.typeIs entry_tuple_getitem ?_ (args_tuple_getitem _ _)))
  show wpAny _ _ (Builtin.Tuple.tupleItemsOf (.ref t) >>= _) _ _ s
  refine wpAny_bind (tupleItemsOf_ ht ?_)
  refine wpAny_bind (wpAny_typeOf hTs ?_)
  rw [if_pos (by decide)]
  refine wpAny_bind (sliceApplied_back hs ps ?_)
  have hno : ¬ ((((items.size : Int) - 1) == 0 && (-1 : Int) == 1 && items.size == items.size) = true) := by
    intro q
    rw [Bool.and_eq_true, Bool.and_eq_true] at q
    exact absurd q.1.2 (by decide)
  show wpAny _ _ (if (((items.size : Int) - 1) == 0 && (-1 : Int) == 1 && items.size == items.size) = true then _ else _) _ _ s
  rw [if_neg hno, pick_back]
  first
    | exact wpAny_bind (m := Builtin.Tuple.tupleExact _) (wpAny_newObj_type (wpAny_pure ⟨_, rfl, wpAny_pure h⟩) htake)
    | exact wpAny_bind (m := Builtin.Tuple.tupleExact _) (wpAny_newObj_type (wpAny_bind (wpAny_pure (wpAny_pure ⟨_, rfl, wpAny_pure h⟩))) htake)
    | exact wpAny_bind (wpAny_bind (m := Builtin.Tuple.tupleExact _) (wpAny_newObj_type (wpAny_pure (wpAny_pure ⟨_, rfl, wpAny_pure h⟩)) htake))
    | exact wpAny_bind (wpAny_bind (m := Builtin.Tuple.tupleExact _) (wpAny_newObj_type (wpAny_pure ⟨_, rfl, wpAny_pure h⟩) htake))
end
end HT
namespace L2
open PySem PySem.Spec PyProof.Rows
section
variable {X : Cx}
/-- xs[::-1], a list or a tuple -/
def tRevU (K : PySem.W.Frag) (te : TE) : TE := fun σ H Q => te σ H fun x H1 => (∃ a xs, x = .ref a ∧ SqL K H1 a xs ∧ ∀ p, H1 p = none → Q (.ref p) (upd H1 p (.lst xs.reverse))) ∨ (∃ a xs, x = .ref a ∧ SqT K H1 a xs ∧ ∀ p, H1 p = none → Q (.ref p) (upd H1 p (.tup xs.reverse)))
theorem pe_revU {e : Expr} {te : TE} {k : Nat} {p1 p2 p3 pos : Pos} (he : PE X e te) : PE X (.Subscript e (.Slice none none (some (.UnaryOp .USub (.Constant (.int 1) k p1) p2)) p3) pos) (tRevU X.K te) := by
  refine ⟨fun pins s σ H Q I h => ?_⟩
  refine Subscript_ (thn (he.run pins s σ H _ I h) fun v s1 ⟨x, H1, I1, r1, q1⟩ => ?_)
  have hst : PO X (some (.UnaryOp .USub (.Constant (.int 1) k p1) p2)) (tPart (tUn (rU fun i => .int (-i)) (tC (.int 1)))) := po_some (pe_un un_neg pe_int)
  refine wpAny_Slice ?_
  rw [evalPart_none]
  refine wpAny_pure ?_
  refine wpAny_pure ?_
  refine thn (hst.run pins s1 σ H1 (fun o H4 => o = some (-1) ∧ H4 = H1) I1 ⟨1, rfl, -1, rfl, rfl, rfl⟩) fun vs s4 ⟨o, H4, I4, ps, eo, e4⟩ => ?_
  subst eo e4
  have I5 : Inv X pins σ H4 { s4 with heap := s4.heap.push { cls := .type "slice", data := .fields #[.none, .none, vs] } } := I4.kept (t' := s4.toks) fun b ob q => Heap.get?_push_of_some _ q
  rcases q1 with ⟨a, xs, ex, hx, q⟩ | ⟨a, xs, ex, hx, q⟩
  · subst ex
    cases r1
    obtain ⟨its, r, ht, hz⟩ := I5.list hx
    have hlen := r.length
    show wpAny (model X.prog X.w) X.A (subscriptTail e (.Slice none none (some (.UnaryOp .USub (.Constant (.int 1) k p1) p2)) p3) (.ref a) (.ref s4.heap.objs.size)) (EP X pins σ Q) X.xe { s4 with heap := s4.heap.push { cls := .type "slice", data := .fields #[.none, .none, vs] } }
    refine tail_any (ops := [.ref a, .ref s4.heap.objs.size]) ht.isList.typeIs (PySem.slot_list_getitem.lookup) ?_ (by with_unfolding_all rfl)
    refine wpAny_getItem_list_slice ht.isList (Heap.IsSliceOf.new _ .none .none vs) .none .none ps (by decide) ?_ (by rw [List.size_toArray]; omega)
    rw [PySem.W.krv_pick]
    refine ⟨.ref _, _, I5.laid (t' := s4.toks) (o := .lst xs.reverse) (fun b ob q => Heap.get?_push_of_some _ q) (Nat.le_refl _) ?_, rfl, q _ (I5.hok.fresh (Nat.le_refl _))⟩
    exact ⟨by rw [List.length_reverse]; exact hz, _, 0, r.reverse, Heap.get?_push_size _ rfl⟩
  · subst ex
    cases r1
    obtain ⟨its, r, ht, hz⟩ := I5.tuple hx
    have hlen := r.length
    show wpAny (model X.prog X.w) X.A (subscriptTail e (.Slice none none (some (.UnaryOp .USub (.Constant (.int 1) k p1) p2)) p3) (.ref a) (.ref s4.heap.objs.size)) (EP X pins σ Q) X.xe { s4 with heap := s4.heap.push { cls := .type "slice", data := .fields #[.none, .none, vs] } }
    refine tail_any (ops := [.ref a, .ref s4.heap.objs.size]) (show IsTup _ a its.toArray from ht).typeIs (PyProof.Rows.slot_tuple_getitem.lookup) ?_ (by with_unfolding_all rfl)
    refine HT.getItem_tuple_back (show IsTup _ a its.toArray from ht) (Heap.IsSliceOf.new _ .none .none vs) ps ?_ (by rw [List.size_toArray]; omega)
    refine ⟨.ref _, _, I5.laid (t' := s4.toks) (o := .tup xs.reverse) (fun b ob q => Heap.get?_push_of_some _ q) (Nat.le_refl _) ?_, rfl, q _ (I5.hok.fresh (Nat.le_refl _))⟩
    exact ⟨by rw [List.length_reverse]; exact hz, its.reverse, r.reverse, _, Heap.get?_push_size _ rfl, rfl, _, rfl⟩
theorem list_extend_list_tupU (l : Addr) (items : Array Value) (n : Nat) (b : Addr) (items2 : Array Value) (n2 : Nat) (dct : Option Addr) (sl : Array (Option Value)) (hs0 : ¬(!items.isEmpty && Builtin.List.listTooLong (items.size + items2.size)) = true) (hs1 : items.size ≤ sizeLine) (hs2 : items.size + items2.size ≤ sizeLine + 1) :
    Meets (Builtin.«list.extend» ⟨[.ref l, .ref b], []⟩) (fun _ R s => s.heap.get? l = some { cls := .type "list", dict := none, data := .seq items n, slots := #[] } ∧ s.heap.get? b = some { cls := .type "tuple", dict := dct, data := .seq items2 n2, slots := sl } ∧ R (.ok (.ret Value.none)) { s with heap := s.heap.update l (Obj.mapSeq fun x => x ++ items2), toks := s.toks }) :=
  .of_wp fun prog w A R s h => by
    obtain ⟨hp, g, d, tk, os⟩ := s; obtain ⟨hl, hb, h⟩ := h; have f1 := AutoSeq1.idx_int; have f2 := AutoSeq1.sub_tuple_tuple; have f3 := AutoSeq1.sub_list_list; have f4 := AutoSeq1.sub_tuple_list; have f5 := AutoSeq1.sub_list_tuple;
    have hz' : (items ++ items2).size ≤ sizeLine + 1 := by rw [Array.size_append]; exact hs2
    wp_walk using (PySem.wpAny_updateSeq hl rfl (hz := hs1) (_hz' := hz')), wpAny_loadPart' hl, wpAny_loadPart' hb; exact ⟨_, rfl, h⟩
/-- a list or a tuple at a list's end -/
def rExtU (K : PySem.W.Frag) : V → List V → Hp → VK → Prop := fun x vs H Q => ∃ l b xs zs, x = .ref l ∧ vs = [.ref b] ∧ H l = some (.lst xs) ∧ (H b = some (.lst zs) ∨ SqT K H b zs) ∧ xs.length + zs.length ≤ sizeLine ∧ Q .non (upd H l (.lst (xs ++ zs)))
theorem mt_extU : MtM X "list.extend" (rExtU X.K) := by
  intro pins s σ H x vs v us Q I rx rv h
  obtain ⟨l, b, xs, zs, rfl, rfl, hH, hB, hz, q⟩ := h
  cases rx
  obtain ⟨u, rfl, ru⟩ := rv.one
  cases ru
  obtain ⟨z, its, n, r, hl, e⟩ := I.lstM hH
  rcases hB with hB | hB
  · obtain ⟨z2, its2, n2, r2, hl2, e2⟩ := I.lstM hB
    have hsz : its.toArray.size + its2.toArray.size ≤ sizeLine := by rw [List.size_toArray, List.size_toArray]; omega
    have hlong : ¬ (!its.toArray.isEmpty && Builtin.List.listTooLong (its.toArray.size + its2.toArray.size)) = true := by
      rw [notLongL hsz, Bool.and_false]
      exact Bool.false_ne_true
    refine call_meets F.slot_list_extend ⟨_, e, rfl⟩ F.entry_list_extend (F.args_list_extend_2 _ _)
      (AutoSeq1.list_extend_list_list_0 l its.toArray n b its2.toArray n2 hlong (by rw [List.size_toArray]; omega) (by omega)) ⟨e, e2, ?_⟩
    refine ⟨.non, _, I.lset (its' := its ++ its2) hH e (by simp) (r.append r2) ?_, rfl, q⟩
    rw [List.length_append]
    omega
  · obtain ⟨its2, r2, p2, z2⟩ := I.tuple hB
    obtain ⟨⟨c, dct, dt, sl⟩, e2, hc, n2, hd⟩ := p2
    replace hc : c = .type "tuple" := hc
    replace hd : dt = .seq its2.toArray n2 := hd
    subst hc hd
    have hl2 := r2.length
    have hsz : its.toArray.size + its2.toArray.size ≤ sizeLine := by rw [List.size_toArray, List.size_toArray]; omega
    have hlong : ¬ (!its.toArray.isEmpty && Builtin.List.listTooLong (its.toArray.size + its2.toArray.size)) = true := by
      rw [notLongL hsz, Bool.and_false]
      exact Bool.false_ne_true
    refine call_meets F.slot_list_extend ⟨_, e, rfl⟩ F.entry_list_extend (F.args_list_extend_2 _ _)
      (list_extend_list_tupU l its.toArray n b its2.toArray n2 dct sl hlong (by rw [List.size_toArray]; omega) (by omega)) ⟨e, e2, ?_⟩
    refine ⟨.non, _, I.lset (its' := its ++ its2) hH e (by simp) (r.append r2) ?_, rfl, q⟩
    rw [List.length_append]
    omega
end
end L2

/-! enumerate, x[::-1], x.extend(tuple), as meanings. -/
namespace DL
open PySem PySem.Spec PyProof.Rows L2
open Evl (Ex)
section
variable {K : PySem.W.Frag} {σ σ1 : L2.St} {env env1 env2 : Nv} {V H V1 H1 V2 H2 : Hp} {v : L2.V} {te ta tb : TE}
/-! x[::-1] -/
def gRev : D → Option Res
  | .list ds => some (.new (.list ds.reverse))
  | .tuple ds => some (.val (.tuple ds.reverse))
  | _ => none
def iRev (f : EvF) : EvF := fun env => (opd f env).bind fun p => (look p.2 p.1).bind fun d => (gRev d).bind fun z => some (z, p.2)
theorem sd_rev {f : EvF} (ha : Sd K te f) : Sd K (tRevU K te) (iRev f) := by
  intro env res env' e σ V H ok Q q
  simp only [iRev, Option.bind_eq_some_iff] at e
  obtain ⟨⟨ra, e1⟩, k1, d, k4, z, k5, k6⟩ := e
  cases k6
  refine opd_snd ha k1 ok fun x V3 H3 a c1 => ?_
  have op := c1.look a.ok k4
  have go : ∀ v V' H', Al V3 H3 V' H' → RR K H3 V' H' v res → Q v H' := fun v V' H' b hr => q v V' H' (a.trans (b.adv a.ok)) (hr.rok a b)
  have k5' : gRev d = some res := k5
  unfold gRev at k5'
  split at k5'
  · cases k5'
    obtain ⟨l, xs, rfl, g1, g2⟩ := op.list a.ok.sub
    exact .inl ⟨l, xs, rfl, g1, fun p hp => go _ _ _ (Al.hid a.ok.sub hp) ⟨p, rfl, hp, Evl.fresh_back a.ok.sub hp, _, upd_same, g2.rev⟩⟩
  · cases k5'
    obtain ⟨l, xs, rfl, g1, g2⟩ := op.tuple
    refine .inr ⟨l, xs, rfl, Evl.ex_t a.ok.sub g1, fun p hp => ?_⟩
    have b : Al V3 H3 (upd V3 p (.tup xs.reverse)) (upd H3 p (.tup xs.reverse)) := Al.new a.ok.sub hp
    exact go _ _ _ b (.tuple (Evl.st_of upd_same) (RA.mono b.ex _ _ g2.rev))
  · cases k5'
/-! x.extend(e), e a new list or a tuple -/
def iExU (i : Nat) (f : EvF) : StF := fun env => match env[i]? with
  | some (.own _ (.list _)) => (f env).bind fun p => match p.1 with
    | .new (.list es) => match p.2[i]? with
      | some (.own q (.list ds)) => if ds.length + es.length ≤ 100000 then some (.next (p.2.set i (.own q (.list (ds ++ es))))) else none
      | _ => none
    | .val (.tuple es) => match p.2[i]? with
      | some (.own q (.list ds)) => if ds.length + es.length ≤ 100000 then some (.next (p.2.set i (.own q (.list (ds ++ es))))) else none
      | _ => none
    | _ => none
  | _ => none
theorem sds_exU {i : Nat} {f : EvF} (ha : Sd K te f) : SdS K (tDrop (tBM K "list" (rExtU K) (tVar i) (tCons te tNil))) (iExU i f) := by
  intro env fl e σ V H ok E q
  unfold iExU at e
  split at e
  · rename_i p0 d0 he0
    simp only [Option.bind_eq_some_iff] at e
    obtain ⟨⟨r, e1⟩, h1, h2⟩ := e
    split at h2
    · rename_i es hr
      have hr' : r = .new (.list es) := hr
      subst hr'
      split at h2
      · rename_i p ds he
        split at h2
        · rename_i hz
          cases h2
          obtain ⟨l0, g1, g2, g3⟩ := ok.ownC he0
          refine ⟨_, g1, ?_, ?_⟩
          · obtain ⟨xs, hx, _⟩ := g3
            exact .inl ⟨rfl, xs, Evl.sq_of hx⟩
          · refine ha _ _ _ h1 σ V H ok _ fun v V1 H1 a k => ?_
            obtain ⟨l, y1, y2, xs, y3, y4⟩ := a.ok.ownC he
            rw [g1] at y1
            cases y1
            obtain ⟨b, rfl, w1, w2, w3, zs, w4, w5⟩ := k
            exact ⟨_, b, xs, zs, rfl, rfl, y3, .inl w4, Evl.sz_of (by rw [y4.len, w5.len]; exact hz), q σ V1 _ (adv_upd a he g1 ⟨xs ++ zs, upd_same, y4.append w5⟩)⟩
        · cases h2
      · cases h2
    · rename_i es hr
      have hr' : r = .val (.tuple es) := hr
      subst hr'
      split at h2
      · rename_i p ds he
        split at h2
        · rename_i hz
          cases h2
          obtain ⟨l0, g1, g2, g3⟩ := ok.ownC he0
          refine ⟨_, g1, ?_, ?_⟩
          · obtain ⟨xs, hx, _⟩ := g3
            exact .inl ⟨rfl, xs, Evl.sq_of hx⟩
          · refine ha _ _ _ h1 σ V H ok _ fun v V1 H1 a k => ?_
            obtain ⟨l, y1, y2, xs, y3, y4⟩ := a.ok.ownC he
            rw [g1] at y1
            cases y1
            have k' : R K V1 v (.tuple es) := k
            cases k' with
            | @tuple b zs _ w4 w5 => exact ⟨_, b, xs, zs, rfl, rfl, y3, .inr (Evl.ex_t a.ok.sub w4), Evl.sz_of (by rw [y4.len, w5.len]; exact hz), q σ V1 _ (adv_upd a he g1 ⟨xs ++ zs, upd_same, y4.append w5⟩)⟩
        · cases h2
      · cases h2
    · cases h2
  · cases e
/-! enumerate(t), a tuple -/
def enumD (ds : List D) : List D := ds.mapIdx fun (i : Nat) (d : D) => D.tuple [D.int (i : Int), d]
theorem enumD_get (ds : List D) (i : Nat) : (enumD ds)[i]? = (ds[i]?).map fun d => D.tuple [.int (i : Int), d] := by unfold enumD; rw [List.getElem?_mapIdx]
theorem enumD_len (ds : List D) : (enumD ds).length = ds.length := by unfold enumD; rw [List.length_mapIdx]
def iEnumI (fs : EvA) : ItF := fun env => (fs env).bind fun p => match p.1 with
  | [.val (.tuple ds)] => some (enumD ds, p.2)
  | _ => none
theorem pair_new {V1 H1 : Hp} {T : Addr} {x : L2.V} {d : D} {i : Nat} (s : Ex V1 H1) (hT : H1 T = none) (r : R K V1 x d) : Al V1 H1 (upd V1 T (.tup [.int (i : Nat), x])) (upd H1 T (.tup [.int (i : Nat), x])) ∧ R K (upd V1 T (.tup [.int (i : Nat), x])) (.ref T) (.tuple [.int (i : Int), d]) := by
  have b : Al V1 H1 (upd V1 T (.tup [.int (i : Nat), x])) (upd H1 T (.tup [.int (i : Nat), x])) := Al.new s hT
  exact ⟨b, .tuple (Evl.st_of upd_same) (.cons (.int _) (.cons (R.mono b.ex _ _ r) .nil))⟩
theorem mk_enumT {a : Addr} {xs : List L2.V} {ds : List D} (hs : SqT K V a xs) (r : RA K V xs ds) : Mk K (IteT K a) σ V H (enumD ds) := by
  intro g tb E Pv h0 hx hi hd
  refine for_it (n := xs.length) walk_enumT (fun i σ1 H1 => ∃ V1, Pv i σ1 V1 H1) ⟨V, h0⟩ (fun i σ1 H1 _ ⟨V1, p⟩ => ?_) (fun i x σ1 H1 H' hlt ⟨V1, p⟩ y => ?_) (fun σ1 H1 ⟨V1, p⟩ => ?_)
  · obtain ⟨p1, p2⟩ := hx i σ1 V1 H1 p
    exact Evl.ex_t (p1.trans p2) hs
  · obtain ⟨p1, p2⟩ := hx i σ1 V1 H1 p
    obtain ⟨T, z, u, rfl, hT, rfl, hz, hu⟩ := y
    cases hz
    obtain ⟨d, hdi, rd⟩ := r.getV hu
    obtain ⟨b, rb⟩ := pair_new (i := i) p2 hT (R.mono p1 _ _ rd)
    exact hi i _ σ1 V1 H1 (by rw [enumD_get, hdi]; rfl) p _ _ _ b rb
  · rw [r.len, ← enumD_len] at p
    exact hd σ1 V1 H1 p
theorem mkc_enumT {a : Addr} {xs : List L2.V} {ds : List D} (hs : SqT K V a xs) (r : RA K V xs ds) : MkC K (IteT K a) σ V H (enumD ds) := by
  intro g tt te vs Dl Pv Qd h0 hx hi hd
  refine lc_it (n := xs.length) walk_enumT (fun i H1 => ∃ V1, Pv i V1 H1) ⟨V, h0⟩ (fun i H1 _ ⟨V1, p⟩ => ?_) (fun i x H1 H' hlt ⟨V1, p⟩ y => ?_) (fun H1 ⟨V1, p⟩ => ?_)
  · obtain ⟨p1, p2⟩ := hx i V1 H1 p
    exact Evl.ex_t (p1.trans p2) hs
  · obtain ⟨p1, p2⟩ := hx i V1 H1 p
    obtain ⟨T, z, u, rfl, hT, rfl, hz, hu⟩ := y
    cases hz
    obtain ⟨d, hdi, rd⟩ := r.getV hu
    obtain ⟨b, rb⟩ := pair_new (i := i) p2 hT (R.mono p1 _ _ rd)
    exact hi i _ V1 H1 (by rw [enumD_get, hdi]; rfl) p _ _ _ b rb
  · rw [r.len, ← enumD_len] at p
    exact hd V1 H1 p
theorem sdi_enum {t : TA} {fs : EvA} (ha : SdA K t fs) : SdI K (iEnumT K t) (iEnumI fs) := by
  intro env ds env' e σ V H ok Rr q
  simp only [iEnumI, Option.bind_eq_some_iff] at e
  obtain ⟨⟨r, e1⟩, h1, h3⟩ := e
  refine ha _ _ _ h1 σ V H ok _ fun vs V' H' a k => ?_
  split at h3
  · rename_i es hn
    have hn' : r = [.val (.tuple es)] := hn
    subst hn'
    cases h3
    cases k with
    | @cons v0 _ _ _ k1 k2 =>
      cases k2
      have k1' : R K V' v0 (.tuple es) := k1
      cases k1' with
      | @tuple b zs _ w4 w5 => exact ⟨b, zs, rfl, Evl.ex_t a.ok.sub w4, q _ V' H' a ⟨mk_enumT w4 w5, mkc_enumT w4 w5⟩⟩
  · cases h3
end
section
variable {X : Cx} {k : Nat} {a b c e l iter : Expr} {es ifs : List Expr} {pos p p2 : Pos} {fa fb f : EvF} {fs : EvA} {x : Str}
theorem pdRev {k : Nat} {p1 p2 p3 pos : Pos} (he : PD X e f) : PD X (.Subscript e (.Slice none none (some (.UnaryOp .USub (.Constant (.int 1) k p1) p2)) p3) pos) (iRev f) := let ⟨_, h1, k1⟩ := he; ⟨_, pe_revU h1, sd_rev k1⟩
theorem idEnum {tpos : Pos} {elts : List Expr} {kk : Nat} (hg : Gl X "enumerate") (hm : X.mg "enumerate" = none) (ha : AD X [a] fs) (hs : starEach [a] X.env = [(false, eval a X.env)] := by rfl) : ID X (.Tuple elts kk tpos) (.Call (.Name "enumerate" p) [a] [] pos) (iEnumI fs) := let ⟨_, h1, k1⟩ := ha; ⟨_, pi_enumT hg hm h1 hs, sdi_enum k1⟩
theorem stExU (i : Nat) (he : PD X e f) {apos p : Pos} (hN : X.N[i]? = some x := by rfl) (hv : Vis X.env.scope x := by first | exact Or.inl rfl | exact Or.inr (Or.inl rfl) | exact Or.inr (Or.inr rfl)) (hd : (x == ("__debug__" : Str)) = false := by decide) (hcd : (x == ("__classdict__" : Str)) = false := by decide)
    (h1 : attributeBase (.Name x p) "extend" X.env (eval (.Name x p) X.env) = eval (.Name x p) X.env := by rfl) (h2 : (apos.endLine == pos.line) = true := by rfl) (h3 : starEach [e] X.env = (false, eval e X.env) :: starEach [] X.env := by rfl) (h4 : (backTo pos (starEach [] X.env)).any (·.1) = false := by rfl)
    (h5 : ((backTo pos (starEach [e] X.env)).all (fun x => !x.1) && (backToKw pos (keywordEach [] X.env)).all (fun x => x.1.isSome) && decide ([e].length + ([] : List Keyword).length + (if ([] : List Keyword).isEmpty then 0 else 1) < 30)) = true := by rfl) (hs : swapsWith (.Call (.Attribute (.Name x p) "extend" apos) [e] [] pos) none p2.line X.env = pure false := by rfl) : StD X (.Expr (.Call (.Attribute (.Name x p) "extend" apos) [e] [] pos) p2) (iExU i f) :=
  let ⟨_, g1, k1⟩ := he
  ⟨_, ps_expr (pe_bm PySem.F.plainAttrs_list PySem.F.slot_list_extend PySem.F.type_list_extend mt_extU (pe_var hN hv hd hcd) (pa_cons g1 pa_nil h3) h1 h5 h2 h3 h4) hs, sds_exU k1⟩
end
end DL

/-! text * int; x[i] = e. -/
namespace L2
open PySem PySem.Spec PyProof.Rows
def repS (z : Str) (k : Nat) : Str := ⟨(List.replicate k z.cps).foldl (· ++ ·) #[]⟩
theorem rep_size (a : Array Nat) : ∀ (k : Nat) (b : Array Nat), ((List.replicate k a).foldl (· ++ ·) b).size = b.size + k * a.size
  | 0, b => by simp
  | k + 1, b => by
    rw [List.replicate_succ, List.foldl_cons, rep_size a k (b ++ a), Array.size_append, Nat.succ_mul]
    omega
section
variable {X : Cx}
theorem op_repS : OpR X (binaryOp .Mult) (fun x y H Q => ∃ (z : Str) (k : Int), x = .str z ∧ y = .int k ∧ 2 ≤ k ∧ k ≤ 1000 ∧ 1 ≤ z.length ∧ z.length ≤ 1000 ∧ Q (.str (repS z k.toNat)) H) := by
  intro pins s σ H x y v u Q I rx ry h
  obtain ⟨z, k, rfl, rfl, h0, h1, h2, h3, q⟩ := h
  obtain ⟨t, rfl⟩ := rx
  obtain ⟨t', rfl⟩ := ry
  have hc : ¬ k < 1 := by omega
  have hn : (k == 1 || z.length == 0) = false := by
    rw [Bool.or_eq_false_iff]
    exact ⟨beq_eq_false_iff_ne.mpr (by omega), beq_eq_false_iff_ne.mpr (by omega)⟩
  have sl : (1000000 : Nat) ≤ sizeLine := by decide
  have ml : z.length * k.toNat ≤ 1000 * 1000 := Nat.mul_le_mul h3 (by omega)
  refine PySem.P.mul_str (by
      have h2 : ¬ k ≥ 2 ^ 63 := by omega
      have h4 : ¬ k < -(2 ^ 63 : Int) := by omega
      rw [decide_eq_false h4, decide_eq_false h2]; rfl) (fun _ _ z => ?_) (fun _ _ => ?_) ?_
  · have e : (2 ^ 63 - 1 : Int) / 1000 ≤ (2 ^ 63 - 1) / k := by
      have hk : (2 ^ 63 - 1 : Int) / 1000 * k ≤ 2 ^ 63 - 1 := by
        have : (2 ^ 63 - 1 : Int) / 1000 * k ≤ (2 ^ 63 - 1 : Int) / 1000 * 1000 := Int.mul_le_mul_of_nonneg_left h1 (by decide)
        have e2 : (2 ^ 63 - 1 : Int) / 1000 * 1000 ≤ 2 ^ 63 - 1 := by decide
        omega
      exact (Int.le_ediv_iff_mul_le (by omega)).mpr hk
    have e3 : (1000 : Int) ≤ (2 ^ 63 - 1) / 1000 := by decide
    omega
  · show decide (z.length * k.toNat > sizeLine) = false
    exact decide_eq_false (by omega)
  · rw [if_neg hc, if_neg (by rw [hn]; exact Bool.false_ne_true)]
    exact ⟨by
      show (repS z k.toNat).cps.size ≤ sizeLine
      show ((List.replicate k.toNat z.cps).foldl (· ++ ·) #[]).size ≤ sizeLine
      rw [rep_size]
      have : k.toNat * z.cps.size ≤ 1000 * 1000 := Nat.mul_le_mul (by omega) h3
      simp only [List.size_toArray, List.length_nil]
      omega, .str (repS z k.toNat), H, I.tok _, ⟨_, rfl⟩, q⟩
end
end L2
namespace DL
open PySem PySem.Spec PyProof.Rows L2
open Evl (Ex)
section
variable {K : PySem.W.Frag} {σ σ1 : L2.St} {env env1 env2 : Nv} {V H V1 H1 V2 H2 : Hp} {v : L2.V} {te ta tb ti : TE}
def gMulS : D → D → Option Res := fun d e => match d, e with
  | .str z, .int k => if 2 ≤ k ∧ k ≤ 1000 ∧ 1 ≤ z.length ∧ z.length ≤ 1000 then some (.val (.str (repS z k.toNat))) else none
  | _, _ => none
theorem bin_mulS : BinOk K (fun x y H Q => ∃ (z : Str) (k : Int), x = .str z ∧ y = .int k ∧ 2 ≤ k ∧ k ≤ 1000 ∧ 1 ≤ z.length ∧ z.length ≤ 1000 ∧ Q (.str (repS z k.toNat)) H) gMulS := by
  intro V H x y d e res sub hx hy hg Q q
  unfold gMulS at hg
  split at hg
  · split at hg
    · rename_i hz
      cases hg
      cases hx.str
      cases hy.int
      exact ⟨_, _, rfl, rfl, hz.1, hz.2.1, hz.2.2.1, hz.2.2.2, q _ V H (Al.refl sub) (.str _)⟩
    · cases hg
  · cases hg
/-! x[i] = e -/
def iStL (i : Nat) (g f : EvF) : StF := fun env => (opd f env).bind fun p => (vis p.1).bind fun d => match p.2[i]? with
  | some (.own _ (.list _)) => (opd g p.2).bind fun r => (isI r.1).bind fun k => match r.2[i]? with
    | some (.own q (.list ds)) => (L2.ixN ds.length k).bind fun j => some (.next (r.2.set i (.own q (.list (ds.set j d)))))
    | _ => none
  | _ => none
theorem sds_stL {i : Nat} {g f : EvF} (ha : Sd K te f) (hg : Sd K ti g) : SdS K (tAsg te (L2.gSub (tVar i) ti rSetL)) (iStL i g f) := by
  intro env fl e σ V H ok E q
  simp only [iStL, Option.bind_eq_some_iff] at e
  obtain ⟨⟨r, e1⟩, h1, d, h2, h3⟩ := e
  split at h3
  · rename_i q0 ds0 he0
    simp only [Option.bind_eq_some_iff] at h3
    obtain ⟨⟨r2, e2⟩, h4, k, h5, h6⟩ := h3
    split at h6
    · rename_i q1 ds he
      simp only [Option.bind_eq_some_iff] at h6
      obtain ⟨j, h7, h8⟩ := h6
      cases h8
      refine opd_snd ha h1 ok fun v V1 H1 a1 k1 => ?_
      have r0 : R K V1 v d := by
        cases r with
        | val d' => cases h2; exact k1
        | new d' => exact k1.elim
        | own j => cases h2
      obtain ⟨l0, g1, g2, g3⟩ := a1.ok.ownC he0
      refine ⟨_, g1, ?_⟩
      refine opd_snd hg h4 a1.ok fun w V2 H2 a2 k2 => ?_
      have a := a1.trans a2
      have hr : r2 = .val (.int k) := isI_val h5
      subst hr
      have k2' : R K V2 w (.int k) := k2
      cases k2'
      obtain ⟨l, y1, y2, xs, y3, y4⟩ := a.ok.ownC he
      rw [g1] at y1
      cases y1
      refine ⟨_, xs, k, j, rfl, rfl, y3, by rw [y4.len]; exact h7, ?_⟩
      exact q σ V2 _ (adv_upd a he g1 ⟨xs.set j v, upd_same, RA.set (R.mono a2.ex _ _ r0) j y4⟩)
    · cases h6
  · cases h3
end
section
variable {X : Cx} {k : Nat} {a b c e l i iter : Expr} {es ifs : List Expr} {pos p p2 : Pos} {fa fb f g : EvF} {fs : EvA} {x : Str}
theorem pdMulS (ha : PD X a fa) (hb : PD X b fb) : PD X (.BinOp a .Mult b pos) (iBin gMulS fa fb) := pdBin op_repS bin_mulS ha hb
theorem stStL (n : Nat) (he : PD X e f) (hi : PD X i g) (hN : X.N[n]? = some x := by rfl) (hv : Vis X.env.scope x := by first | exact Or.inl rfl | exact Or.inr (Or.inl rfl) | exact Or.inr (Or.inr rfl)) (hd : (x == ("__debug__" : Str)) = false := by decide) (hcd : (x == ("__classdict__" : Str)) = false := by decide)
    (hs : swapsWithSole [.Subscript (.Name x p) i p2] e pos.line X.env = pure false := by rfl) (hw : swappedStores [.Subscript (.Name x p) i p2] e X.env = pure none := by rfl) (h1 : (assignEach [.Subscript (.Name x p) i p2] X.env).map (·.2) = [assign (.Subscript (.Name x p) i p2) X.env] := by rfl)
    (ha : ∀ v, assign (.Subscript (.Name x p) i p2) X.env v = (do
      let ov ← holding [v] (eval (.Name x p) X.env)
      let iv ← holding [v, ov] (eval i X.env)
      standAt p2
      holding [v, ov, iv] (setItem ov iv v)
      release [v, ov, iv] []) := by intro _; rfl) : StD X (.Assign [.Subscript (.Name x p) i p2] e pos) (iStL n g f) :=
  let ⟨_, g1, k1⟩ := he; let ⟨_, g2, k2⟩ := hi
  ⟨_, ps_asg g1 (pg_sub (pe_var hN hv hd hcd) g2 set_list ha) hs hw h1, sds_stL k1 k2⟩
end
end DL

/-! Meanings that many laws share: the script's cells. -/
namespace Sh
open PySem L2 DL
def m_cell : StF :=
    (iSeq (iAsg false 2 (iBin gAdd (iBin gMulL (iCon (.int 7)) (iVar 1)) (iCon (.int 3))))
    (iSeq (iIfS (iTst (iBin gLt (iVar 1) (iCB (c1 gLen) (argC (iVar 0) argN)))) (iAsg false 2 (iBin gIx (iVar 0) (iVar 1))) iNext)
    (iSeq (iIfS (iTst (iBin gLt (iVar 2) (iCon (.int 0)))) (iAsg false 2 (iBin DL.gSub (iCon (.int 1)) (iBin gMulL (iCon (.int 2)) (iVar 2)))) iNext)
    (iSeq (iIfS (iTst (iBin gLt (iVar 2) (iCon (.int 1000000000)))) (iSeq (iAsg false 3 (iBin gMod (iCB (c1 gInt) (argC (iBin gAdd (iBin gAdd (iBin gMulR (iVar 2) (iCon (.int 48271))) (iBin gMulR (iVar 1) (iCon (.int 69621)))) (iCon (.int 11))) argN)) (iCon (.int 2147483647))))
    (iSeq (iAsg false 4 (iBin gMod (iCB (c1 gInt) (argC (iBin gAdd (iBin gAdd (iBin gMulR (iVar 3) (iCon (.int 16807))) (iBin gMulR (iVar 1) (iCon (.int 31)))) (iCon (.int 1013))) argN)) (iCon (.int 2147483629))))
    (iSeq (iAsg false 5 (iBin gMod (iCB (c1 gInt) (argC (iBin gAdd (iBin gAdd (iBin gMulR (iVar 4) (iCon (.int 39373))) (iVar 3)) (iCon (.int 77))) argN)) (iCon (.int 2147483587))))
    (iAsg false 2 (iBin gAdd (iBin gMulR (iBin gAdd (iBin gMulR (iVar 5) (iCon (.int 2147483647))) (iVar 4)) (iCon (.int 2147483647))) (iVar 3)))))) iNext)
    (iRet (iVar 2))))))
theorem atI_map_int {ns : List Int} {k : Nat} (h : k < ns.length) : atI (ns.map D.int) (k : Int) = some (.int ns[k]) := by
  rw [atI_nat (v := .int ns[k])]
  rw [List.getElem?_map, List.getElem?_eq_getElem h]
  rfl
abbrev scr (ns : List Int) : Sl := .val (.list (ns.map D.int))
/-- a cell is an int that is at least 0 -/
theorem cell_ex (ns : List Int) (k : Nat) : ∃ d, runDef 2 6 m_cell [scr ns, .val (.int k)] = some (.val d, [scr ns, .val (.int k)]) ∧ ∃ c : Int, d = .int c ∧ 0 ≤ c := by
  refine run_val ?_
  show Ret _ (m_cell [scr ns, .val (.int k), .no, .no, .no, .no])
  unfold m_cell
  refine seq_ret (fun e => e = [scr ns, .val (.int k), .val (.int (7 * k + 3)), .no, .no, .no]) (asg_val rfl rfl rfl) ?_
  rintro _ rfl
  refine seq_ret (fun e => ∃ c : Int, e = [scr ns, .val (.int k), .val (.int c), .no, .no, .no]) (if_p (p := (k : Int) < (((ns.map D.int).length : Nat) : Int)) rfl (fun h => ?_) fun _ => nxt_here ⟨_, rfl⟩) ?_
  · have h' : k < ns.length := by rw [List.length_map] at h; omega
    have e1 : iBin gIx (iVar 0) (iVar 1) [scr ns, .val (.int k), .val (.int (7 * k + 3)), .no, .no, .no] = some (.val (.int ns[k]), [scr ns, .val (.int k), .val (.int (7 * k + 3)), .no, .no, .no]) := by simp [atI_map_int h']
    exact asg_val e1 rfl ⟨_, rfl⟩
  rintro _ ⟨c, rfl⟩
  refine seq_ret (fun e => ∃ c : Int, 0 ≤ c ∧ e = [scr ns, .val (.int k), .val (.int c), .no, .no, .no]) (if_p (p := c < 0) rfl (fun h => asg_val rfl rfl ⟨_, by omega, rfl⟩) fun h => nxt_here ⟨_, by omega, rfl⟩) ?_
  rintro _ ⟨c, h0, rfl⟩
  refine seq_ret (fun e => ∃ (c : Int) (x y z : Sl), 0 ≤ c ∧ e = [scr ns, .val (.int k), .val (.int c), x, y, z]) (if_p (p := c < 1000000000) rfl (fun h => ?_) fun h => nxt_here ⟨_, _, _, _, h0, rfl⟩) ?_
  · refine seq_is (iAsg_val rfl rfl) ?_
    refine seq_is (iAsg_val rfl rfl) ?_
    refine seq_is (iAsg_val rfl rfl) ?_
    refine asg_val rfl rfl ⟨_, _, _, _, ?_, rfl⟩
    generalize he : (c * 48271 + (k : Int) * 69621 + 11) % 2147483647 = lo
    generalize hm : (lo * 16807 + (k : Int) * 31 + 1013) % 2147483629 = mi
    generalize hh : (mi * 39373 + lo + 77) % 2147483587 = hi
    omega
  · rintro _ ⟨c, x, y, z, h0, rfl⟩
    exact ret_val rfl ⟨_, rfl, rfl, c, rfl, h0⟩
/-- the cell k of the script -/
noncomputable def cell (ns : List Int) (k : Nat) : Int := (cell_ex ns k).choose_spec.2.choose
theorem cell_nn (ns : List Int) (k : Nat) : 0 ≤ cell ns k := (cell_ex ns k).choose_spec.2.choose_spec.2
theorem cell_eq (ns : List Int) (k : Nat) : runDef 2 6 m_cell [scr ns, .val (.int k)] = some (.val (.int (cell ns k)), [scr ns, .val (.int k)]) := by
  have h := (cell_ex ns k).choose_spec
  rw [h.1]
  have e := h.2.choose_spec.1
  rw [e]
  rfl
/-- a call of it -/
theorem cell_call {ns : List Int} {env : Nv} {k : Nat} {f f2 : EvF} (h : opd f env = some (.val (.list (ns.map D.int)), env)) (h2 : opd f2 env = some (.val (.int k), env)) : iCall (runDef 2 6 m_cell) (argC f (argC f2 argN)) env = some (.val (.int (cell ns k)), env) :=
  call2 h h2 (cell_eq ns k)
end Sh

/-! Tokens. -/
namespace Tk
open PySem L2 DL
abbrev st (l : List Nat) : Str := ⟨l.toArray⟩
theorem st_len (l : List Nat) : (st l).length = l.length := by show l.toArray.size = _; simp
theorem st_app (a b : List Nat) : st a ++ st b = st (a ++ b) := by show (⟨a.toArray ++ b.toArray⟩ : Str) = _; simp
theorem st_inj {a b : List Nat} : st a = st b ↔ a = b := ⟨fun h => by have := congrArg Str.cps h; simpa using this, fun h => by rw [h]⟩
theorem ix_st {l : List Nat} {i c : Nat} (h : l[i]? = some c) (hl : l.length ≤ 100000) : gIx (.str (st l)) (.int (i : Int)) = some (.val (.str (st [c]))) := by
  show (if (st l).length ≤ 100000 then (L2.atI (st l).cps.toList i).map fun c => Res.val (.str ⟨#[c]⟩) else none) = _
  rw [st_len, if_pos hl]
  show (L2.atI l (i : Int)).map _ = _
  rw [atI_nat h]
  rfl
theorem sl_st {l : List Nat} {i j : Nat} (hl : l.length ≤ 100000) (hi : i ≤ l.length) : gSl (.str (st l)) (some (i : Int)) (some (j : Int)) = some (.val (.str (st ((l.drop i).take (j - i))))) := by
  show (if (st l).length ≤ 100000 then some (Res.val (.str (cutS (st l) _ _))) else none) = _
  rw [st_len, if_pos hl]
  unfold cutS
  rw [st_len, HT.sIx_nat, HT.sIx_nat, Nat.min_eq_left hi]
  show some (Res.val (.str (st ((l.drop i).take (min j l.length - i))))) = _
  by_cases h : j ≤ l.length
  · rw [Nat.min_eq_left h]
  · rw [Nat.min_eq_right (by omega), List.take_of_length_le (by rw [List.length_drop]; omega), List.take_of_length_le (by rw [List.length_drop]; omega)]
theorem in_st (c : Nat) (z : Str) : alt (gIn false) (gInS false) (.str (st [c])) (.str z) = some (.val (.bool (decide (c ∈ z.cps.toList)))) := by
  show some (Res.val (.bool (!(Builtin.Str.occurrences z ⟨#[c]⟩ 0 z.length 1).isEmpty))) = _
  rw [PySem.StrLaws.found_one]
theorem len_st {l : List Nat} (hl : l.length ≤ 100000) : gLen (.str (st l)) = some (.val (.int (l.length : Int))) := by
  unfold gLen lenD
  simp [st_len, hl]
theorem tru_st {l : List Nat} (hl : l.length ≤ 100000) : truD (.str (st l)) = some (!l.isEmpty) := by
  unfold truD
  simp only [st_len, hl, if_true]
  cases l <;> simp
  omega
abbrev WS : Str := "abcdefghijklmnopqrstuvwxyzABCDEFGHIJKLMNOPQRSTUVWXYZ0123456789_"
abbrev SG : Str := "(),.:="
def W (c : Nat) : Bool := decide (c ∈ WS.cps.toList)
theorem s_hash : ("#" : Str) = st [35] := by decide +kernel
theorem s_ne : ("!=" : Str) = st [33, 61] := by decide +kernel
theorem s_bang : ("!" : Str) = st [33] := by decide +kernel
theorem s_eq : ("=" : Str) = st [61] := by decide +kernel
theorem s_sp : (" " : Str) = st [32] := by decide +kernel
theorem s_tab : ("\t" : Str) = st [9] := by decide +kernel
theorem s_bl : (" \t" : Str) = st [32, 9] := by decide +kernel
theorem s_nil : ("" : Str) = st [] := by decide +kernel
theorem w35 : W 35 = false := by decide +kernel
theorem w32 : W 32 = false := by decide +kernel
theorem w9 : W 9 = false := by decide +kernel
theorem w33 : W 33 = false := by decide +kernel
theorem w61 : W 61 = false := by decide +kernel
theorem g32 : ¬ 32 ∈ SG.cps.toList := by decide +kernel
theorem g9 : ¬ 9 ∈ SG.cps.toList := by decide +kernel
theorem g33 : ¬ 33 ∈ SG.cps.toList := by decide +kernel
def tk (k w : Str) (n p : Int) : D := .tuple [.str k, .str w, .int n, .int p]
inductive Tok (n : Int) : Nat → List Nat → List D → Prop
  | nil (p : Nat) : Tok n p [] []
  | hash (p : Nat) (cs : List Nat) : Tok n p (35 :: cs) []
  | blank {p c : Nat} {cs : List Nat} {ts : List D} (h : c = 32 ∨ c = 9) (t : Tok n (p + 1) cs ts) : Tok n p (c :: cs) ts
  | word {p : Nat} {w cs : List Nat} {ts : List D} (h0 : w ≠ []) (h : ∀ c ∈ w, W c = true) (h2 : ∀ c, cs.head? = some c → W c = false) (t : Tok n (p + w.length) cs ts) : Tok n p (w ++ cs) (tk (if 40 < w.length then "bad" else "word") (st w) n ((p : Int) + 1) :: ts)
  | ne {p : Nat} {cs : List Nat} {ts : List D} (t : Tok n (p + 2) cs ts) : Tok n p (33 :: 61 :: cs) (tk "sign" "!=" n ((p : Int) + 1) :: ts)
  | one {p c : Nat} {cs : List Nat} {ts : List D} (h1 : c ≠ 35 ∧ c ≠ 32 ∧ c ≠ 9) (h2 : W c = false) (h3 : c = 33 → cs.head? ≠ some 61) (t : Tok n (p + 1) cs ts) : Tok n p (c :: cs) (tk (if c ∈ SG.cps.toList then "sign" else "bad") (st [c]) n ((p : Int) + 1) :: ts)
theorem run_ex : ∀ cs : List Nat, ∃ w r, cs = w ++ r ∧ (∀ c ∈ w, W c = true) ∧ ∀ c, r.head? = some c → W c = false
  | [] => ⟨[], [], rfl, (fun c h => by cases h), (fun c h => by cases h)⟩
  | c :: cs => by
    obtain ⟨w, r, h1, h2, h3⟩ := run_ex cs
    by_cases h : W c = true
    · refine ⟨c :: w, r, by rw [h1]; rfl, fun x hx => ?_, h3⟩
      rcases List.mem_cons.mp hx with rfl | hx
      · exact h
      · exact h2 x hx
    · refine ⟨[], c :: cs, rfl, (fun x hx => by cases hx), fun x hx => ?_⟩
      cases hx
      exact Bool.not_eq_true _ ▸ h
theorem tok_ex (n : Int) : ∀ (k p : Nat) (cs : List Nat), cs.length ≤ k → ∃ ts, Tok n p cs ts
  | 0, p, cs, h => by
    have : cs = [] := List.eq_nil_of_length_eq_zero (by omega)
    subst this
    exact ⟨[], .nil p⟩
  | k + 1, p, [], h => ⟨[], .nil p⟩
  | k + 1, p, c :: cs, h => by
    have hl : cs.length ≤ k := by rw [List.length_cons] at h; omega
    by_cases h1 : c = 35
    · subst h1; exact ⟨[], .hash p cs⟩
    by_cases h2 : c = 32 ∨ c = 9
    · obtain ⟨ts, t⟩ := tok_ex n k (p + 1) cs hl
      exact ⟨ts, .blank h2 t⟩
    by_cases h3 : W c = true
    · obtain ⟨w, r, e, hw, hr⟩ := run_ex (c :: cs)
      have h0 : w ≠ [] := by
        rintro rfl
        rw [List.nil_append] at e
        subst e
        have := hr c rfl
        rw [h3] at this
        cases this
      have hp : 0 < w.length := List.length_pos_iff.mpr h0
      have el := congrArg List.length e
      rw [List.length_append, List.length_cons] at el
      obtain ⟨ts, t⟩ := tok_ex n k (p + w.length) r (by omega)
      rw [e]
      exact ⟨_, .word h0 hw hr t⟩
    have h3' : W c = false := Bool.not_eq_true _ ▸ h3
    by_cases h4 : c = 33 ∧ cs.head? = some 61
    · obtain ⟨rfl, h5⟩ := h4
      cases cs with
      | nil => cases h5
      | cons d cs =>
        cases h5
        obtain ⟨ts, t⟩ := tok_ex n k (p + 2) cs (by rw [List.length_cons] at hl; omega)
        exact ⟨_, .ne t⟩
    · obtain ⟨ts, t⟩ := tok_ex n k (p + 1) cs hl
      exact ⟨_, .one ⟨h1, fun z => h2 (.inl z), fun z => h2 (.inr z)⟩ h3' (fun z y => h4 ⟨z, y⟩) t⟩
/-! the program -/
theorem aug_is {i : Nat} {op : Int → Int → Int} {f : EvF} {env : Nv} {a b : Int} (h0 : env[i]? = some (.val (.int a))) (h : f env = some (.val (.int b), env)) : iAug i op f env = some (.next (env.set i (.val (.int (op a b))))) := by
  unfold iAug
  rw [h0]
  simp only [h, Option.bind_some]
  rw [setV_free h0 free_val]
  rfl
theorem wloop_step {c : EvT} {body : StF} {m : Nat} {env e1 e2 : Nv} (hc : c env = some (true, e1)) (hb : body e1 = some (.next e2)) : wloop c body (m + 1) env = wloop c body m e2 := by
  simp only [wloop, hc, Option.bind_some, if_true, hb]
theorem wloop_end {c : EvT} {body : StF} {m : Nat} {env e1 : Nv} (hc : c env = some (false, e1)) : wloop c body (m + 1) env = some (.next e1) := by
  simp only [wloop, hc, Option.bind_some]
  rfl
abbrev wc : EvT := (iAndT (iTst (iBin gLt (iVar 2) (iCB (c1 gLen) (argC (iVar 0) argN)))) (iTst (iBin (alt (gIn false) (gInS false)) (iBin gIx (iVar 0) (iVar 2)) (iCon (.str "abcdefghijklmnopqrstuvwxyzABCDEFGHIJKLMNOPQRSTUVWXYZ0123456789_")))))
def m_word : StF :=
    (iSeq (iAsg false 2 (iVar 1))
    (iSeq (wloop wc (iAug 2 (fun i j => i + j) (iCon (.int 1))) 1000000)
    (iRet (iSl (iVar 0) (iPart (iVar 1)) (iPart (iVar 2))))))
theorem get_drop {L : List Nat} {q c : Nat} {cs : List Nat} (h : L.drop q = c :: cs) : L[q]? = some c ∧ L.drop (q + 1) = cs ∧ q < L.length := by
  have hq : q < L.length := by
    have := congrArg List.length h
    rw [List.length_drop, List.length_cons] at this
    omega
  rw [List.drop_eq_getElem_cons hq] at h
  injection h with h1 h2
  exact ⟨by rw [List.getElem?_eq_getElem hq, h1], h2, hq⟩
section
variable {L : List Nat} (hL : L.length ≤ 50000)
include hL
theorem word_loop {p : Nat} {cs : List Nat} (h2 : ∀ c, cs.head? = some c → W c = false) : ∀ (w : List Nat) (q m : Nat), L.drop q = w ++ cs → (∀ c ∈ w, W c = true) → w.length < m →
    wloop wc (iAug 2 (fun i j => i + j) (iCon (.int 1))) m [.val (.str (st L)), .val (.int (p : Int)), .val (.int (q : Int))] = some (.next [.val (.str (st L)), .val (.int (p : Int)), .val (.int ((q + w.length : Nat) : Int))])
  | _, _, 0, _, _, hm => absurd hm (Nat.not_lt_zero _)
  | [], q, m + 1, hd, _, _ => by
    have lt : iTst (iBin gLt (iVar 2) (iCB (c1 gLen) (argC (iVar 0) argN))) [.val (.str (st L)), .val (.int (p : Int)), .val (.int (q : Int))] = some (decide ((q : Int) < (L.length : Int)), [.val (.str (st L)), .val (.int (p : Int)), .val (.int (q : Int))]) :=
      tst_is (bop_is (d := .int (q : Int)) (d' := .int (L.length : Int)) rfl (opd_val (cb_is rfl (len_st (by omega)))) (gLt_int))
    refine wloop_end ?_
    cases cs with
    | nil =>
      have hq : L.length ≤ q := by
        have := congrArg List.length hd
        rw [List.length_drop] at this
        simp at this
        omega
      rw [decide_eq_false (by omega)] at lt
      exact andT_f lt
    | cons c cs =>
      obtain ⟨g1, g2, g3⟩ := get_drop hd
      rw [decide_eq_true (by omega)] at lt
      refine (andT_t lt).trans (tst_is (bop_is (d := .str (st [c])) (d' := .str WS) (opd_val (bop_is (d := .str (st L)) (d' := .int (q : Int)) rfl rfl (ix_st g1 (by omega)))) rfl ?_))
      rw [in_st]
      have := h2 c rfl
      unfold W at this
      rw [this]
  | c :: w, q, m + 1, hd, hw, hm => by
    have lt : iTst (iBin gLt (iVar 2) (iCB (c1 gLen) (argC (iVar 0) argN))) [.val (.str (st L)), .val (.int (p : Int)), .val (.int (q : Int))] = some (decide ((q : Int) < (L.length : Int)), [.val (.str (st L)), .val (.int (p : Int)), .val (.int (q : Int))]) :=
      tst_is (bop_is (d := .int (q : Int)) (d' := .int (L.length : Int)) rfl (opd_val (cb_is rfl (len_st (by omega)))) (gLt_int))
    obtain ⟨g1, g2, g3⟩ := get_drop hd
    rw [decide_eq_true (by omega)] at lt
    have tr : wc [.val (.str (st L)), .val (.int (p : Int)), .val (.int (q : Int))] = some (true, [.val (.str (st L)), .val (.int (p : Int)), .val (.int (q : Int))]) := by
      refine (andT_t lt).trans (tst_is (bop_is (d := .str (st [c])) (d' := .str WS) (opd_val (bop_is (d := .str (st L)) (d' := .int (q : Int)) rfl rfl (ix_st g1 (by omega)))) rfl ?_))
      rw [in_st]
      have := hw c List.mem_cons_self
      unfold W at this
      rw [this]
    rw [wloop_step tr (aug_is (a := (q : Int)) (b := 1) rfl rfl)]
    have r := word_loop (p := p) h2 w (q + 1) m g2 (fun x hx => hw x (List.mem_cons_of_mem _ hx)) (by rw [List.length_cons] at hm; omega)
    rw [show ((q + (c :: w).length : Nat) : Int) = ((q + 1 + w.length : Nat) : Int) by rw [List.length_cons]; omega]
    exact r
theorem word_eq {p : Nat} {w cs : List Nat} (hd : L.drop p = w ++ cs) (hp : p ≤ L.length) (hw : ∀ c ∈ w, W c = true) (h2 : ∀ c, cs.head? = some c → W c = false) : runDef 2 3 m_word [.val (.str (st L)), .val (.int (p : Int))] = some (.val (.str (st w)), [.val (.str (st L)), .val (.int (p : Int))]) := by
  refine run_eq (n := 2) (N := 3) (g := m_word) (sls := [.val (.str (st L)), .val (.int (p : Int))]) ?_
  show Ret _ (m_word [.val (.str (st L)), .val (.int (p : Int)), .no])
  unfold m_word
  refine seq_is (e := [.val (.str (st L)), .val (.int (p : Int)), .val (.int (p : Int))]) rfl ?_
  have wl : w.length ≤ L.length := by
    have := congrArg List.length hd
    rw [List.length_drop, List.length_append] at this
    omega
  refine seq_is (word_loop hL h2 w p 1000000 hd hw (by omega)) ?_
  refine ret_val (d := .str (st w)) (e := [.val (.str (st L)), .val (.int (p : Int)), .val (.int ((p + w.length : Nat) : Int))]) ?_ ⟨rfl, rfl⟩
  have s := sl_st (l := L) (i := p) (j := p + w.length) (by omega) hp
  rw [hd, show p + w.length - p = w.length by omega, List.take_left'  rfl] at s
  unfold iSl
  show ((gSl (.str (st L)) (some (p : Int)) (some ((p + w.length : Nat) : Int))).bind fun z => some (z, _)) = _
  rw [s]
  rfl
end
end Tk

/-! Tokens: the program's loop. -/
namespace Tk
open PySem L2 DL
theorem part_is {g : EvF} {env e : Nv} {i : Int} (h : g env = some (.val (.int i), e)) : iPart g env = some (some i, e) := by unfold iPart; rw [h]; rfl
theorem slS_is {f : EvF} {lo hi : EvO} {env : Nv} {l : List Nat} {i j : Nat} (hf : opd f env = some (.val (.str (st l)), env)) (h1 : lo env = some (some (i : Int), env)) (h2 : hi env = some (some (j : Int), env)) (hl : l.length ≤ 100000) (hi' : i ≤ l.length) :
    iSl f lo hi env = some (.val (.str (st ((l.drop i).take (j - i)))), env) := by
  unfold iSl
  rw [hf]
  show ((lo env).bind _) = _
  rw [h1]
  show ((hi env).bind _) = _
  rw [h2]
  show ((gSl (.str (st l)) (some (i : Int)) (some (j : Int))).bind fun z => some (z, env)) = _
  rw [sl_st hl hi']
  rfl
theorem if_is {c : EvT} {env : Nv} {P : Prop} [Decidable P] {a b : Str} (h : c env = some (decide P, env)) : iIf c (iCon (.str a)) (iCon (.str b)) env = some (.val (.str (if P then a else b)), env) := by
  unfold iIf
  rw [h]
  by_cases hp : P
  · rw [decide_eq_true hp, if_pos hp]; rfl
  · rw [decide_eq_false hp, if_neg hp]; rfl
def m_tokat (gw : Fn) : StF :=
    (iSeq (iAsg false 2 (iCall gw (argC (iVar 0) (argC (iVar 1) argN))))
    (iSeq (iIfS (iTru (iVar 2)) (iRet (iTup (argC (iIf (iTst (iBin gGt (iCB (c1 gLen) (argC (iVar 2) argN)) (iCon (.int 40)))) (iCon (.str "bad")) (iCon (.str "word"))) (argC (iVar 2) argN)))) iNext)
    (iSeq (iIfS (iTst (iBin gEq (iSl (iVar 0) (iPart (iVar 1)) (iPart (iBin gAdd (iVar 1) (iCon (.int 2))))) (iCon (.str "!=")))) (iRet (iTup (argC (iCon (.str "sign")) (argC (iCon (.str "!=")) argN)))) iNext)
    (iSeq (iAsg false 3 (iBin gIx (iVar 0) (iVar 1)))
    (iRet (iTup (argC (iIf (iTst (iBin (alt (gIn false) (gInS false)) (iVar 3) (iCon (.str "(),.:=")))) (iCon (.str "sign")) (iCon (.str "bad"))) (argC (iVar 3) argN))))))))
abbrev G_word : Fn := runDef 2 3 m_word
section
variable {L : List Nat} (hL : L.length ≤ 50000)
include hL
theorem at_word {p : Nat} {w cs : List Nat} (hd : L.drop p = w ++ cs) (hp : p ≤ L.length) (h0 : w ≠ []) (hw : ∀ c ∈ w, W c = true) (h2 : ∀ c, cs.head? = some c → W c = false) :
    runDef 2 4 (m_tokat G_word) [.val (.str (st L)), .val (.int (p : Int))] = some (.val (.tuple [.str (if 40 < w.length then "bad" else "word"), .str (st w)]), [.val (.str (st L)), .val (.int (p : Int))]) := by
  have wl : w.length ≤ L.length := by
    have := congrArg List.length hd
    rw [List.length_drop, List.length_append] at this
    omega
  refine run_eq (n := 2) (N := 4) (g := m_tokat G_word) (sls := [.val (.str (st L)), .val (.int (p : Int))]) ?_
  show Ret _ (m_tokat G_word [.val (.str (st L)), .val (.int (p : Int)), .no, .no])
  unfold m_tokat
  refine seq_is (e := [.val (.str (st L)), .val (.int (p : Int)), .val (.str (st w)), .no]) (iAsg_val (call2 rfl rfl (word_eq hL hd hp hw h2)) rfl) ?_
  have tr : iTru (iVar 2) [.val (.str (st L)), .val (.int (p : Int)), .val (.str (st w)), .no] = some (true, [.val (.str (st L)), .val (.int (p : Int)), .val (.str (st w)), .no]) := by
    refine tru_is rfl ?_
    rw [tru_st (by omega)]
    cases w with
    | nil => exact absurd rfl h0
    | cons c w => rfl
  have tg : iTst (iBin gGt (iCB (c1 gLen) (argC (iVar 2) argN)) (iCon (.int 40))) [.val (.str (st L)), .val (.int (p : Int)), .val (.str (st w)), .no] = some (decide (40 < w.length), [.val (.str (st L)), .val (.int (p : Int)), .val (.str (st w)), .no]) := by
    refine tst_is (bop_is (d := .int (w.length : Int)) (d' := .int 40) (opd_val (cb_is rfl (len_st (by omega)))) rfl ?_)
    rw [gGt_int]
    congr 3
    rw [decide_eq_decide]
    omega
  exact ⟨.val (.tuple [.str (if 40 < w.length then "bad" else "word"), .str (st w)]), _, iSeq_ret ((iIfS_true tr).trans (iRet_val (tup2_is (opd_val (if_is tg)) rfl))), rfl, rfl⟩
theorem at_not {p : Nat} {c : Nat} {cs : List Nat} (hd : L.drop p = c :: cs) (hc : W c = false) :
    ∀ Q, (Q : Res → Nv → Prop) = (fun r e => r = .val (.tuple [.str (if c = 33 ∧ cs.head? = some 61 then "sign" else if c ∈ SG.cps.toList then "sign" else "bad"), .str (if c = 33 ∧ cs.head? = some 61 then "!=" else st [c])]) ∧ outs [.val (.str (st L)), .val (.int (p : Int))] e = some [.val (.str (st L)), .val (.int (p : Int))]) →
    Ret Q (m_tokat G_word [.val (.str (st L)), .val (.int (p : Int)), .no, .no]) := by
  rintro _ rfl
  obtain ⟨g1, g2, g3⟩ := get_drop hd
  unfold m_tokat
  refine seq_is (e := [.val (.str (st L)), .val (.int (p : Int)), .val (.str (st [])), .no]) (iAsg_val (call2 rfl rfl (word_eq hL (w := []) (cs := c :: cs) hd (by omega) (fun x hx => by cases hx) (fun x hx => by cases hx; exact hc))) rfl) ?_
  refine seq_is ((iIfS_false (e := [.val (.str (st L)), .val (.int (p : Int)), .val (.str (st [])), .no]) (tru_is rfl (tru_st (by simp)))).trans rfl) ?_
  have sl := slS_is (f := iVar 0) (lo := iPart (iVar 1)) (hi := iPart (iBin gAdd (iVar 1) (iCon (.int 2)))) (env := [.val (.str (st L)), .val (.int (p : Int)), .val (.str (st [])), .no]) (l := L) (i := p) (j := p + 2) rfl (part_is rfl) (part_is rfl) (by omega) (by omega)
  rw [hd, show p + 2 - p = 2 by omega] at sl
  have te : iTst (iBin gEq (iSl (iVar 0) (iPart (iVar 1)) (iPart (iBin gAdd (iVar 1) (iCon (.int 2))))) (iCon (.str "!="))) [.val (.str (st L)), .val (.int (p : Int)), .val (.str (st [])), .no] = some (decide (c = 33 ∧ cs.head? = some 61), [.val (.str (st L)), .val (.int (p : Int)), .val (.str (st [])), .no]) := by
    refine tst_is (bop_is (d := .str (st ((c :: cs).take 2))) (d' := .str "!=") (opd_val sl) rfl ?_)
    rw [gEq_str]
    congr 3
    rw [decide_eq_decide, s_ne, st_inj]
    cases cs with
    | nil => simp
    | cons d cs => simp
  by_cases h : c = 33 ∧ cs.head? = some 61
  · rw [decide_eq_true h] at te
    refine ⟨.val (.tuple [.str "sign", .str "!="]), _, iSeq_ret ((iIfS_true te).trans (iRet_val rfl)), ?_, rfl⟩
    rw [if_pos h, if_pos h]
  · rw [decide_eq_false h] at te
    refine seq_is ((iIfS_false te).trans rfl) ?_
    refine seq_is (e := [.val (.str (st L)), .val (.int (p : Int)), .val (.str (st [])), .val (.str (st [c]))]) (iAsg_val (bop_is (d := .str (st L)) (d' := .int (p : Int)) rfl rfl (ix_st g1 (by omega))) rfl) ?_
    have tg : iTst (iBin (alt (gIn false) (gInS false)) (iVar 3) (iCon (.str "(),.:="))) [.val (.str (st L)), .val (.int (p : Int)), .val (.str (st [])), .val (.str (st [c]))] = some (decide (c ∈ SG.cps.toList), [.val (.str (st L)), .val (.int (p : Int)), .val (.str (st [])), .val (.str (st [c]))]) :=
      tst_is (bop_is (d := .str (st [c])) (d' := .str SG) rfl rfl (in_st c SG))
    refine ret_val (d := .tuple [.str (if c ∈ SG.cps.toList then "sign" else "bad"), .str (st [c])]) (tup2_is (opd_val (if_is tg)) rfl) ⟨?_, rfl⟩
    rw [if_neg h, if_neg h]
theorem at_ne {p : Nat} {cs : List Nat} (hd : L.drop p = 33 :: 61 :: cs) : runDef 2 4 (m_tokat G_word) [.val (.str (st L)), .val (.int (p : Int))] = some (.val (.tuple [.str "sign", .str "!="]), [.val (.str (st L)), .val (.int (p : Int))]) :=
  run_eq (n := 2) (N := 4) (g := m_tokat G_word) (sls := [.val (.str (st L)), .val (.int (p : Int))]) (at_not hL hd w33 _ (by simp))
theorem at_one {p : Nat} {c : Nat} {cs : List Nat} (hd : L.drop p = c :: cs) (hc : W c = false) (h3 : c = 33 → cs.head? ≠ some 61) : runDef 2 4 (m_tokat G_word) [.val (.str (st L)), .val (.int (p : Int))] = some (.val (.tuple [.str (if c ∈ SG.cps.toList then "sign" else "bad"), .str (st [c])]), [.val (.str (st L)), .val (.int (p : Int))]) :=
  run_eq (n := 2) (N := 4) (g := m_tokat G_word) (sls := [.val (.str (st L)), .val (.int (p : Int))]) (at_not hL hd hc _ (by
    have h : ¬ (c = 33 ∧ cs.head? = some 61) := fun z => h3 z.1 z.2
    simp only [if_neg h]))
end
abbrev tc : EvT := (iAndT (iTst (iBin gLt (iVar 3) (iCB (c1 gLen) (argC (iVar 0) argN)))) (iTst (iBin gNe (iBin gIx (iVar 0) (iVar 3)) (iCon (.str "#")))))
abbrev emit (gt : Fn) : StF := (iSeq (iAsgT (iGT (iGC (iNm 4) (iGC (iNm 5) iGN)) 2) (iCall gt (argC (iVar 0) (argC (iVar 3) argN))))
    (iSeq (iApp 2 (iTup (argC (iVar 4) (argC (iVar 5) (argC (iVar 1) (argC (iBin gAdd (iVar 3) (iCon (.int 1))) argN))))))
    (iAug 3 (fun i j => i + j) (iCB (c1 gLen) (argC (iVar 5) argN)))))
abbrev tb (gt : Fn) : StF := (iIfS (iTst (iBin (alt (gIn false) (gInS false)) (iBin gIx (iVar 0) (iVar 3)) (iCon (.str " \t")))) (iAug 3 (fun i j => i + j) (iCon (.int 1))) (emit gt))
def m_tokens (gt : Fn) : StF :=
    (iSeq (iAsg true 2 (iLst argN))
    (iSeq (iAsg false 3 (iCon (.int 0)))
    (iSeq (wloop tc (tb gt) 1000000)
    (iRet (iVar 2)))))
abbrev G_at : Fn := runDef 2 4 (m_tokat G_word)
theorem emit_is {L wl : List Nat} {n : Int} {p : Nat} {k : Str} {F : List D} {w4 w5 : Sl} (hc : G_at [.val (.str (st L)), .val (.int (p : Int))] = some (.val (.tuple [.str k, .str (st wl)]), [.val (.str (st L)), .val (.int (p : Int))])) (hF : F.length < 100000) (hl : wl.length ≤ 100000) (f4 : Free w4) (f5 : Free w5) :
    emit G_at [.val (.str (st L)), .val (.int n), .own false (.list F), .val (.int (p : Int)), w4, w5] = some (.next [.val (.str (st L)), .val (.int n), .own false (.list (F ++ [tk k (st wl) n ((p : Int) + 1)])), .val (.int ((p + wl.length : Nat) : Int)), .val (.str k), .val (.str (st wl))]) := by
  have un : iAsgT (iGT (iGC (iNm 4) (iGC (iNm 5) iGN)) 2) (iCall G_at (argC (iVar 0) (argC (iVar 3) argN))) [.val (.str (st L)), .val (.int n), .own false (.list F), .val (.int (p : Int)), w4, w5] = some (.next [.val (.str (st L)), .val (.int n), .own false (.list F), .val (.int (p : Int)), .val (.str k), .val (.str (st wl))]) := by
    unfold iAsgT
    rw [opd_val (call2 rfl rfl hc)]
    show ((setV [.val (.str (st L)), .val (.int n), .own false (.list F), .val (.int (p : Int)), w4, w5] 4 (.val (.str k))).bind fun e => iGC (iNm 5) iGN e [.str (st wl)]).bind _ = _
    rw [setV_free (w := w4) rfl f4]
    show ((setV [.val (.str (st L)), .val (.int n), .own false (.list F), .val (.int (p : Int)), .val (.str k), w5] 5 (.val (.str (st wl)))).bind fun e => iGN e []).bind _ = _
    rw [setV_free (w := w5) rfl f5]
    rfl
  unfold emit
  rw [iSeq_next un, iSeq_next (app_is (d := tk k (st wl) n ((p : Int) + 1)) (e := [.val (.str (st L)), .val (.int n), .own false (.list F), .val (.int (p : Int)), .val (.str k), .val (.str (st wl))]) (ds := F) (p := false) (p0 := false) rfl rfl rfl hF)]
  exact (aug_is (env := [.val (.str (st L)), .val (.int n), .own false (.list (F ++ [tk k (st wl) n ((p : Int) + 1)])), .val (.int (p : Int)), .val (.str k), .val (.str (st wl))]) (a := (p : Int)) (b := (wl.length : Int)) rfl (cb_is rfl (len_st hl))).trans rfl
section
variable {L : List Nat} (hL : L.length ≤ 50000) {n : Int}
include hL
theorem tok_loop {p : Nat} {cs : List Nat} {ts : List D} (T : Tok n p cs ts) : ∀ (F : List D) (m : Nat) (w4 w5 : Sl), L.drop p = cs → p ≤ L.length → cs.length < m → F.length + cs.length ≤ 50000 → Free w4 → Free w5 →
    Nxt (fun e => ∃ q w4 w5, e = [.val (.str (st L)), .val (.int n), .own false (.list (F ++ ts)), q, w4, w5]) (wloop tc (tb G_at) m [.val (.str (st L)), .val (.int n), .own false (.list F), .val (.int (p : Int)), w4, w5]) := by
  have lt : ∀ (p : Nat) (F : List D) (w4 w5 : Sl), iTst (iBin gLt (iVar 3) (iCB (c1 gLen) (argC (iVar 0) argN))) [.val (.str (st L)), .val (.int n), .own false (.list F), .val (.int (p : Int)), w4, w5] = some (decide ((p : Int) < (L.length : Int)), [.val (.str (st L)), .val (.int n), .own false (.list F), .val (.int (p : Int)), w4, w5]) := fun p F w4 w5 =>
    tst_is (bop_is (d := .int (p : Int)) (d' := .int (L.length : Int)) rfl (opd_val (cb_is rfl (len_st (by omega)))) gLt_int)
  have nh : ∀ (p c : Nat) (F : List D) (w4 w5 : Sl), L[p]? = some c → iTst (iBin gNe (iBin gIx (iVar 0) (iVar 3)) (iCon (.str "#"))) [.val (.str (st L)), .val (.int n), .own false (.list F), .val (.int (p : Int)), w4, w5] = some (!decide (c = 35), [.val (.str (st L)), .val (.int n), .own false (.list F), .val (.int (p : Int)), w4, w5]) := fun p c F w4 w5 hc => by
    refine tst_is (bop_is (d := .str (st [c])) (d' := .str "#") (opd_val (bop_is (d := .str (st L)) (d' := .int (p : Int)) rfl rfl (ix_st hc (by omega)))) rfl ?_)
    rw [gNe_str]
    congr 4
    rw [decide_eq_decide, s_hash, st_inj]
    simp
  have bl : ∀ (p c : Nat) (F : List D) (w4 w5 : Sl), L[p]? = some c → iTst (iBin (alt (gIn false) (gInS false)) (iBin gIx (iVar 0) (iVar 3)) (iCon (.str " \t"))) [.val (.str (st L)), .val (.int n), .own false (.list F), .val (.int (p : Int)), w4, w5] = some (decide (c = 32 ∨ c = 9), [.val (.str (st L)), .val (.int n), .own false (.list F), .val (.int (p : Int)), w4, w5]) := fun p c F w4 w5 hc => by
    refine tst_is (bop_is (d := .str (st [c])) (d' := .str " \t") (opd_val (bop_is (d := .str (st L)) (d' := .int (p : Int)) rfl rfl (ix_st hc (by omega)))) rfl ?_)
    rw [in_st]
    congr 3
    rw [decide_eq_decide, s_bl]
    simp
  have go : ∀ (p c : Nat) (F : List D) (w4 w5 : Sl), L[p]? = some c → p < L.length → c ≠ 35 → tc [.val (.str (st L)), .val (.int n), .own false (.list F), .val (.int (p : Int)), w4, w5] = some (true, [.val (.str (st L)), .val (.int n), .own false (.list F), .val (.int (p : Int)), w4, w5]) := fun p c F w4 w5 hc hp h => by
    have a := lt p F w4 w5
    rw [decide_eq_true (by omega)] at a
    have b := nh p c F w4 w5 hc
    rw [decide_eq_false h] at b
    exact (andT_t a).trans b
  induction T with
  | nil p =>
    intro F m w4 w5 hd hp hm hF f4 f5
    cases m with
    | zero => omega
    | succ m =>
      have hq : L.length ≤ p := by
        have := congrArg List.length hd
        rw [List.length_drop] at this
        simp at this
        omega
      have a := lt p F w4 w5
      rw [decide_eq_false (by omega)] at a
      rw [List.append_nil]
      exact ⟨_, wloop_end (andT_f a), _, w4, w5, rfl⟩
  | hash p cs =>
    intro F m w4 w5 hd hp hm hF f4 f5
    cases m with
    | zero => omega
    | succ m =>
      obtain ⟨g1, g2, g3⟩ := get_drop hd
      have a := lt p F w4 w5
      rw [decide_eq_true (by omega)] at a
      have b := nh p 35 F w4 w5 g1
      rw [List.append_nil]
      exact ⟨_, wloop_end ((andT_t a).trans b), _, w4, w5, rfl⟩
  | @blank p c cs ts h t ih =>
    intro F m w4 w5 hd hp hm hF f4 f5
    cases m with
    | zero => omega
    | succ m =>
      obtain ⟨g1, g2, g3⟩ := get_drop hd
      have b := bl p c F w4 w5 g1
      rw [decide_eq_true h] at b
      rw [wloop_step (go p c F w4 w5 g1 g3 (by omega)) ((iIfS_true b).trans (aug_is (a := (p : Int)) (b := 1) rfl rfl))]
      rw [List.length_cons] at hm hF
      exact ih F m w4 w5 g2 (by omega) (by omega) (by omega) f4 f5
  | @word p w cs ts h0 hw h2 t ih =>
    intro F m w4 w5 hd hp hm hF f4 f5
    cases m with
    | zero => omega
    | succ m =>
      cases w with
      | nil => exact absurd rfl h0
      | cons c w =>
        obtain ⟨g1, g2, g3⟩ := get_drop (cs := w ++ cs) hd
        have wc' := hw c List.mem_cons_self
        have n35 : c ≠ 35 := fun z => by rw [z, w35] at wc'; cases wc'
        have nb : ¬ (c = 32 ∨ c = 9) := by
          rintro (z | z)
          · rw [z, w32] at wc'; cases wc'
          · rw [z, w9] at wc'; cases wc'
        have b := bl p c F w4 w5 g1
        rw [decide_eq_false nb] at b
        rw [List.length_append, List.length_cons] at hm hF
        rw [wloop_step (go p c F w4 w5 g1 g3 n35) ((iIfS_false b).trans (emit_is (at_word hL hd hp h0 hw h2) (by omega) (by rw [List.length_cons]; omega) f4 f5))]
        have dr : L.drop (p + (c :: w).length) = cs := by rw [← List.drop_drop, hd, List.drop_left' rfl]
        have pl : p + (c :: w).length ≤ L.length := by
          have := congrArg List.length hd
          rw [List.length_drop, List.length_append] at this
          omega
        have r := ih (F ++ [tk (if 40 < (c :: w).length then "bad" else "word") (st (c :: w)) n ((p : Int) + 1)]) m (.val (.str (if 40 < (c :: w).length then "bad" else "word"))) (.val (.str (st (c :: w)))) dr pl (by omega) (by rw [List.length_append, List.length_singleton]; omega) free_val free_val
        rw [List.append_assoc] at r
        exact r
  | @ne p cs ts t ih =>
    intro F m w4 w5 hd hp hm hF f4 f5
    cases m with
    | zero => omega
    | succ m =>
      obtain ⟨g1, g2, g3⟩ := get_drop hd
      obtain ⟨k1, k2, k3⟩ := get_drop g2
      have b := bl p 33 F w4 w5 g1
      rw [decide_eq_false (by omega)] at b
      have e := at_ne hL hd
      rw [s_ne] at e
      rw [List.length_cons, List.length_cons] at hm hF
      rw [wloop_step (go p 33 F w4 w5 g1 g3 (by omega)) ((iIfS_false b).trans (emit_is e (by omega) (by simp) f4 f5))]
      have r := ih (F ++ [tk "sign" (st [33, 61]) n ((p : Int) + 1)]) m (.val (.str "sign")) (.val (.str (st [33, 61]))) k2 (by omega) (by omega) (by rw [List.length_append, List.length_singleton]; omega) free_val free_val
      rw [List.append_assoc] at r
      rw [s_ne]
      exact r
  | @one p c cs ts h1 h2 h3 t ih =>
    intro F m w4 w5 hd hp hm hF f4 f5
    cases m with
    | zero => omega
    | succ m =>
      obtain ⟨g1, g2, g3⟩ := get_drop hd
      have b := bl p c F w4 w5 g1
      rw [decide_eq_false (by omega)] at b
      rw [List.length_cons] at hm hF
      rw [wloop_step (go p c F w4 w5 g1 g3 h1.1) ((iIfS_false b).trans (emit_is (at_one hL hd h2 h3) (by omega) (by simp) f4 f5))]
      have r := ih (F ++ [tk (if c ∈ SG.cps.toList then "sign" else "bad") (st [c]) n ((p : Int) + 1)]) m (.val (.str (if c ∈ SG.cps.toList then "sign" else "bad"))) (.val (.str (st [c]))) g2 (by omega) (by omega) (by rw [List.length_append, List.length_singleton]; omega) free_val free_val
      rw [List.append_assoc] at r
      exact r
theorem tokens_eq {ts : List D} (T : Tok n 0 L ts) : runDef 2 6 (m_tokens G_at) [.val (.str (st L)), .val (.int n)] = some (.new (.list ts), [.val (.str (st L)), .val (.int n)]) := by
  refine run_new (n := 2) (N := 6) (g := m_tokens G_at) (sls := [.val (.str (st L)), .val (.int n)]) ?_
  show Ret _ (m_tokens G_at [.val (.str (st L)), .val (.int n), .no, .no, .no, .no])
  unfold m_tokens
  refine seq_is (e := [.val (.str (st L)), .val (.int n), .own false (.list []), .no, .no, .no]) rfl ?_
  refine seq_is (e := [.val (.str (st L)), .val (.int n), .own false (.list []), .val (.int ((0 : Nat) : Int)), .no, .no]) rfl ?_
  refine seq_ret _ (tok_loop hL T [] 1000000 .no .no rfl (Nat.zero_le _) (by omega) (by simp; omega) free_no free_no) ?_
  rintro _ ⟨q, w4, w5, rfl⟩
  exact ret_own rfl rfl ⟨rfl, rfl⟩
end
end Tk

/-! Tokens: the law's loop. -/
namespace Tk
open PySem L2 DL
def m_isw : StF :=
    (iRet (iAnd (iBin gNe (iVar 0) (iCon (.str ""))) (iBin (alt (gIn false) (gInS false)) (iVar 0) (iCon (.str "abcdefghijklmnopqrstuvwxyzABCDEFGHIJKLMNOPQRSTUVWXYZ0123456789_")))))
abbrev G_isw : Fn := runDef 1 1 m_isw
theorem isw_one (c : Nat) : G_isw [.val (.str (st [c]))] = some (.val (.bool (W c)), [.val (.str (st [c]))]) := by
  refine run_eq (n := 1) (N := 1) (g := m_isw) (sls := [.val (.str (st [c]))]) ?_
  show Ret _ (m_isw [.val (.str (st [c]))])
  unfold m_isw
  refine ret_val (d := .bool (W c)) (e := [.val (.str (st [c]))]) ((and_t (e := [.val (.str (st [c]))]) (bop_is (d := .str (st [c])) (d' := .str "") rfl rfl ?_)).trans (bop_is (d := .str (st [c])) (d' := .str WS) rfl rfl (in_st c WS))) ⟨rfl, rfl⟩
  rw [gNe_str, s_nil]
  have : ¬ (st [c] = st []) := fun z => by rw [st_inj] at z; cases z
  simp [this]
theorem isw_nil : G_isw [.val (.str (st []))] = some (.val (.bool false), [.val (.str (st []))]) := by
  refine run_eq (n := 1) (N := 1) (g := m_isw) (sls := [.val (.str (st []))]) ?_
  show Ret _ (m_isw [.val (.str (st []))])
  unfold m_isw
  refine ret_val (d := .bool false) (e := [.val (.str (st []))]) (and_f (bop_is (d := .str (st [])) (d' := .str "") rfl rfl ?_)) ⟨rfl, rfl⟩
  rw [gNe_str, s_nil]
  simp
abbrev c1t (gw : Fn) : EvT := (iOrT (iTst (iBin gEq (iVar 4) (iCon (.int 0)))) (iNotT (iTru (iCall gw (argC (iBin gIx (iVar 0) (iBin DL.gSub (iVar 4) (iCon (.int 1)))) argN)))))
abbrev c2t (gw : Fn) : EvT := (iNotT (iTru (iCall gw (argC (iSl (iVar 0) (iPart (iBin gAdd (iVar 4) (iCon (.int 1)))) (iPart (iBin gAdd (iVar 4) (iCon (.int 2))))) argN))))
abbrev wordPart (gw : Fn) : StF := (iSeq (iIfS (c1t gw) (iAsg false 3 (iVar 4)) iNext)
    (iIfS (c2t gw) (iSeq (iAsg false 6 (iIf (iTst (iBin gLe (iBin DL.gSub (iBin gAdd (iVar 4) (iCon (.int 1))) (iVar 3)) (iCon (.int 40)))) (iCon (.str "word")) (iCon (.str "bad"))))
    (iApp 2 (iTup (argC (iVar 6) (argC (iSl (iVar 0) (iPart (iVar 3)) (iPart (iBin gAdd (iVar 4) (iCon (.int 1))))) (argC (iVar 1) (argC (iBin gAdd (iVar 3) (iCon (.int 1))) argN))))))) iNext))
abbrev signPart : StF := (iIfS (iAndT (iTst (iBin gEq (iVar 5) (iCon (.str "=")))) (iAndT (iTst (iBin gGt (iVar 4) (iCon (.int 0)))) (iTst (iBin gEq (iBin gIx (iVar 0) (iBin DL.gSub (iVar 4) (iCon (.int 1)))) (iCon (.str "!")))))) (iStL 2 (iUn gNeg (iCon (.int 1))) (iTup (argC (iCon (.str "sign")) (argC (iCon (.str "!=")) (argC (iVar 1) (argC (iVar 4) argN)))))) (iIfS (iTst (iBin (alt (gIn false) (gInS false)) (iVar 5) (iCon (.str "(),.:=")))) (iApp 2 (iTup (argC (iCon (.str "sign")) (argC (iVar 5) (argC (iVar 1) (argC (iBin gAdd (iVar 4) (iCon (.int 1))) argN)))))) (iIfS (iAndT (iTst (iBin gNe (iVar 5) (iCon (.str " ")))) (iTst (iBin gNe (iVar 5) (iCon (.str "\t"))))) (iApp 2 (iTup (argC (iCon (.str "bad")) (argC (iVar 5) (argC (iVar 1) (argC (iBin gAdd (iVar 4) (iCon (.int 1))) argN)))))) iNext)))
abbrev db (gw : Fn) : StF := (iSeq (iAsg false 5 (iBin gIx (iVar 0) (iVar 4)))
    (iSeq (iIfS (iTst (iBin gEq (iVar 5) (iCon (.str "#")))) (iRet (iVar 2)) iNext)
    (iIfS (iTru (iCall gw (argC (iVar 5) argN))) (wordPart gw) signPart)))
def m_due (gw : Fn) : StF :=
    (iSeq (iAsg true 2 (iLst argN))
    (iSeq (iAsg false 3 (iCon (.int 0)))
    (iSeq (iFor (iR1 (argC (iCB (c1 gLen) (argC (iVar 0) argN)) argN)) (iNm 4) (db gw))
    (iRet (iVar 2)))))
abbrev EV (L : List Nat) (n : Int) (F : List D) (s : Int) (a b c : Sl) : Nv := [.val (.str (st L)), .val (.int n), .own false (.list F), .val (.int s), a, b, c]
def rg : Nat → Nat → List D
  | _, 0 => []
  | q, m + 1 => .int (q : Int) :: rg (q + 1) m
theorem rg_get : ∀ (m q i : Nat), i < m → (rg q m)[i]? = some (.int ((q + i : Nat) : Int))
  | 0, q, i, h => by omega
  | m + 1, q, 0, h => rfl
  | m + 1, q, i + 1, h => by
    show (rg (q + 1) m)[i]? = _
    rw [rg_get m (q + 1) i (by omega), show q + 1 + i = q + (i + 1) by omega]
theorem rg_len : ∀ (m q : Nat), (rg q m).length = m
  | 0, _ => rfl
  | m + 1, q => by show (rg (q + 1) m).length + 1 = _; rw [rg_len m]
theorem rng_rg (m : Nat) : rngD 0 m = rg 0 m := by
  apply List.ext_getElem?
  intro i
  by_cases h : i < m
  · rw [rngD_get h, rg_get m 0 i h]
    congr 2
    try omega
  · rw [List.getElem?_eq_none (by rw [rngD_len]; omega), List.getElem?_eq_none (by rw [rg_len]; omega)]
theorem floop_step {tg : TgF} {body : StF} {d : D} {ds : List D} {env e1 e2 : Nv} (ht : tg env d = some e1) (hb : body e1 = some (.next e2)) : floop tg body (d :: ds) env = floop tg body ds e2 := by
  simp only [floop, ht, Option.bind_some, hb]
theorem floop_ret {tg : TgF} {body : StF} {d : D} {ds : List D} {env e1 e2 : Nv} {r : Res} (ht : tg env d = some e1) (hb : body e1 = some (.ret r e2)) : floop tg body (d :: ds) env = some (.ret r e2) := by
  simp only [floop, ht, Option.bind_some, hb]
section
variable {L : List Nat} (hL : L.length ≤ 50000) {n : Int}
include hL
theorem sign_is {F : List D} {s : Int} {q c : Nat} {w5 w6 : Sl} (hc : L[q]? = some c) (f5 : Free w5) : iAsg false 5 (iBin gIx (iVar 0) (iVar 4)) (EV L n F s (.val (.int (q : Int))) w5 w6) = some (.next (EV L n F s (.val (.int (q : Int))) (.val (.str (st [c]))) w6)) :=
  (iAsg_val (bop_is (d := .str (st L)) (d' := .int (q : Int)) rfl rfl (ix_st hc (by omega))) (setV_free (w := w5) rfl f5))
omit hL in
theorem hash_is {F : List D} {s : Int} {q c : Nat} {w6 : Sl} : iTst (iBin gEq (iVar 5) (iCon (.str "#"))) (EV L n F s (.val (.int (q : Int))) (.val (.str (st [c]))) w6) = some (decide (c = 35), EV L n F s (.val (.int (q : Int))) (.val (.str (st [c]))) w6) := by
  refine tst_is (bop_is (d := .str (st [c])) (d' := .str "#") rfl rfl ?_)
  rw [gEq_str]
  congr 3
  rw [decide_eq_decide, s_hash, st_inj]
  simp
omit hL in
theorem isw_is {F : List D} {s : Int} {q c : Nat} {w6 : Sl} : iTru (iCall G_isw (argC (iVar 5) argN)) (EV L n F s (.val (.int (q : Int))) (.val (.str (st [c]))) w6) = some (W c, EV L n F s (.val (.int (q : Int))) (.val (.str (st [c]))) w6) :=
  tru_is (opd_val (call1 rfl (isw_one c))) rfl
theorem prev_is {F : List D} {s : Int} {q d : Nat} {b w6 : Sl} (h0 : 0 < q) (hd : L[q - 1]? = some d) : opd (iBin gIx (iVar 0) (iBin DL.gSub (iVar 4) (iCon (.int 1)))) (EV L n F s (.val (.int (q : Int))) b w6) = some (.val (.str (st [d])), EV L n F s (.val (.int (q : Int))) b w6) := by
  refine opd_val (bop_is (d := .str (st L)) (d' := .int ((q - 1 : Nat) : Int)) rfl (opd_val (bop_is (d := .int (q : Int)) (d' := .int 1) rfl rfl ?_)) (ix_st hd (by omega)))
  rw [gSub_int]
  congr 3
  omega
theorem c1_is {F : List D} {s : Int} {q c : Nat} {w6 : Sl} : ∀ b : Bool, (b = true ∧ (q = 0 ∨ ∃ d, 0 < q ∧ L[q - 1]? = some d ∧ W d = false)) ∨ (b = false ∧ 0 < q ∧ ∃ d, L[q - 1]? = some d ∧ W d = true) →
    c1t G_isw (EV L n F s (.val (.int (q : Int))) (.val (.str (st [c]))) w6) = some (b, EV L n F s (.val (.int (q : Int))) (.val (.str (st [c]))) w6) := by
  intro b h
  have z : iTst (iBin gEq (iVar 4) (iCon (.int 0))) (EV L n F s (.val (.int (q : Int))) (.val (.str (st [c]))) w6) = some (decide ((q : Int) = 0), EV L n F s (.val (.int (q : Int))) (.val (.str (st [c]))) w6) := tst_is (bop_is (d := .int (q : Int)) (d' := .int 0) rfl rfl gEq_int)
  by_cases h0 : q = 0
  · rw [decide_eq_true (by omega)] at z
    rcases h with ⟨rfl, _⟩ | ⟨_, h1, _⟩
    · exact orT_t z
    · omega
  · rw [decide_eq_false (by omega)] at z
    rcases h with ⟨rfl, h1 | ⟨d, h1, h2, h3⟩⟩ | ⟨rfl, h1, d, h2, h3⟩
    · exact absurd h1 h0
    · have t := tru_is (f := iCall G_isw (argC (iBin gIx (iVar 0) (iBin DL.gSub (iVar 4) (iCon (.int 1)))) argN)) (b := W d) (opd_val (call1 (prev_is hL (n := n) (F := F) (s := s) (b := .val (.str (st [c]))) (w6 := w6) h1 h2) (isw_one d))) rfl
      rw [h3] at t
      exact (orT_f z).trans (notT_is t)
    · have t := tru_is (f := iCall G_isw (argC (iBin gIx (iVar 0) (iBin DL.gSub (iVar 4) (iCon (.int 1)))) argN)) (b := W d) (opd_val (call1 (prev_is hL (n := n) (F := F) (s := s) (b := .val (.str (st [c]))) (w6 := w6) h1 h2) (isw_one d))) rfl
      rw [h3] at t
      exact (orT_f z).trans (notT_is t)
theorem c2_is {F : List D} {s : Int} {q : Nat} {x w6 : Sl} {r : List Nat} (hq : q < L.length) (hr : L.drop (q + 1) = r) : c2t G_isw (EV L n F s (.val (.int (q : Int))) x w6) = some (!(match r with | [] => false | d :: _ => W d), EV L n F s (.val (.int (q : Int))) x w6) := by
  have sl := slS_is (f := iVar 0) (lo := iPart (iBin gAdd (iVar 4) (iCon (.int 1)))) (hi := iPart (iBin gAdd (iVar 4) (iCon (.int 2)))) (env := EV L n F s (.val (.int (q : Int))) x w6) (l := L) (i := q + 1) (j := q + 2) rfl (part_is rfl) (part_is rfl) (by omega) (by omega)
  rw [hr, show q + 2 - (q + 1) = 1 by omega] at sl
  cases r with
  | nil => exact notT_is (tru_is (opd_val (call1 (opd_val sl) isw_nil)) rfl)
  | cons d r => exact notT_is (tru_is (opd_val (call1 (opd_val sl) (isw_one d))) rfl)
/-- a run of word signs -/
theorem due_word {s : Nat} {cs : List Nat} (h2 : ∀ c, cs.head? = some c → W c = false) : ∀ (w : List Nat) (q m : Nat) (s0 : Int) (w4 w5 w6 : Sl) (F : List D), w ≠ [] → L.drop q = w ++ cs → (∀ c ∈ w, W c = true) → s ≤ q →
    ((s = q ∧ (q = 0 ∨ ∃ d, 0 < q ∧ L[q - 1]? = some d ∧ W d = false)) ∨ (s0 = (s : Int) ∧ 0 < q ∧ ∃ d, L[q - 1]? = some d ∧ W d = true)) → F.length < 50000 → Free w4 → Free w5 → Free w6 →
    ∃ w4' w5' w6', Free w4' ∧ Free w5' ∧ Free w6' ∧ floop (iNm 4) (db G_isw) (rg q (w.length + m)) (EV L n F s0 w4 w5 w6) = floop (iNm 4) (db G_isw) (rg (q + w.length) m) (EV L n (F ++ [tk (if 40 < q + w.length - s then "bad" else "word") (st ((L.drop s).take (q + w.length - s))) n ((s : Int) + 1)]) s w4' w5' w6')
  | [], _, _, _, _, _, _, _, h, _, _, _, _, _, _, _, _ => absurd rfl h
  | c :: w, q, m, s0, w4, w5, w6, F, _, hd, hw, hs, hst, hF, f4, f5, f6 => by
    obtain ⟨g1, g2, g3⟩ := get_drop (cs := w ++ cs) hd
    have wc' := hw c List.mem_cons_self
    have n35 : c ≠ 35 := fun z => by rw [z, w35] at wc'; cases wc'
    have hh := hash_is (L := L) (n := n) (F := F) (s := s0) (q := q) (c := c) (w6 := w6)
    rw [decide_eq_false n35] at hh
    have hi := isw_is (L := L) (n := n) (F := F) (s := s0) (q := q) (c := c) (w6 := w6)
    rw [wc'] at hi
    have st1 : iIfS (c1t G_isw) (iAsg false 3 (iVar 4)) iNext (EV L n F s0 (.val (.int (q : Int))) (.val (.str (st [c]))) w6) = some (.next (EV L n F (s : Int) (.val (.int (q : Int))) (.val (.str (st [c]))) w6)) := by
      rcases hst with ⟨rfl, h⟩ | ⟨rfl, h⟩
      · exact (iIfS_true (c1_is hL true (.inl ⟨rfl, h⟩))).trans rfl
      · exact (iIfS_false (c1_is hL false (.inr ⟨rfl, h⟩))).trans rfl
    have two := c2_is hL (n := n) (F := F) (s := (s : Int)) (x := .val (.str (st [c]))) (w6 := w6) g3 g2
    have head : ∀ e, iIfS (c2t G_isw) (iSeq (iAsg false 6 (iIf (iTst (iBin gLe (iBin DL.gSub (iBin gAdd (iVar 4) (iCon (.int 1))) (iVar 3)) (iCon (.int 40)))) (iCon (.str "word")) (iCon (.str "bad"))))
    (iApp 2 (iTup (argC (iVar 6) (argC (iSl (iVar 0) (iPart (iVar 3)) (iPart (iBin gAdd (iVar 4) (iCon (.int 1))))) (argC (iVar 1) (argC (iBin gAdd (iVar 3) (iCon (.int 1))) argN))))))) iNext (EV L n F (s : Int) (.val (.int (q : Int))) (.val (.str (st [c]))) w6) = some (.next e) → db G_isw (EV L n F s0 (.val (.int (q : Int))) w5 w6) = some (.next e) := by
      intro e he
      refine (iSeq_next (sign_is hL g1 f5)).trans ?_
      refine (iSeq_next ((iIfS_false hh).trans rfl)).trans ?_
      refine (iIfS_true hi).trans ?_
      exact (iSeq_next st1).trans he
    cases w with
    | cons c2 w =>
      have wc2 := hw c2 (List.mem_cons_of_mem _ List.mem_cons_self)
      have two' : c2t G_isw (EV L n F (s : Int) (.val (.int (q : Int))) (.val (.str (st [c]))) w6) = some (!(W c2), EV L n F (s : Int) (.val (.int (q : Int))) (.val (.str (st [c]))) w6) := two
      rw [wc2] at two'
      have stp := head _ ((iIfS_false two').trans rfl)
      have r := due_word (s := s) h2 (c2 :: w) (q + 1) m (s : Int) (.val (.int (q : Int))) (.val (.str (st [c]))) w6 F (fun z => by cases z) g2 (fun x hx => hw x (List.mem_cons_of_mem _ hx)) (by omega) (.inr ⟨rfl, by omega, c, by rw [show q + 1 - 1 = q by omega]; exact g1, wc'⟩) hF free_val free_val f6
      obtain ⟨a, b, d, fa, fb, fd, r⟩ := r
      refine ⟨a, b, d, fa, fb, fd, ?_⟩
      rw [show (c :: c2 :: w).length + m = ((c2 :: w).length + m) + 1 by simp only [List.length_cons]; omega]
      show floop (iNm 4) (db G_isw) (.int (q : Int) :: rg (q + 1) ((c2 :: w).length + m)) _ = _
      rw [floop_step (setV_free (w := w4) rfl f4) stp, r, show q + 1 + (c2 :: w).length = q + (c :: c2 :: w).length by simp only [List.length_cons]; omega]
    | nil =>
      have two' : c2t G_isw (EV L n F (s : Int) (.val (.int (q : Int))) (.val (.str (st [c]))) w6) = some (true, EV L n F (s : Int) (.val (.int (q : Int))) (.val (.str (st [c]))) w6) := by
        cases cs with
        | nil => exact two
        | cons d cs =>
          have z : c2t G_isw (EV L n F (s : Int) (.val (.int (q : Int))) (.val (.str (st [c]))) w6) = some (!(W d), EV L n F (s : Int) (.val (.int (q : Int))) (.val (.str (st [c]))) w6) := two
          rw [h2 d rfl] at z
          exact z
      have tl : iTst (iBin gLe (iBin DL.gSub (iBin gAdd (iVar 4) (iCon (.int 1))) (iVar 3)) (iCon (.int 40))) (EV L n F (s : Int) (.val (.int (q : Int))) (.val (.str (st [c]))) w6) = some (decide (¬ 40 < q + 1 - s), EV L n F (s : Int) (.val (.int (q : Int))) (.val (.str (st [c]))) w6) := by
        refine tst_is (bop_is (d := .int ((q : Int) + 1 - (s : Int))) (d' := .int 40) rfl rfl ?_)
        rw [gLe_int]
        congr 3
        rw [decide_eq_decide]
        omega
      have kk : (if ¬ 40 < q + 1 - s then ("word" : Str) else ("bad" : Str)) = (if 40 < q + 1 - s then ("bad" : Str) else ("word" : Str)) := by
        by_cases h : 40 < q + 1 - s
        · rw [if_pos h, if_neg (fun z => z h)]
        · rw [if_neg h, if_pos h]
      have ki := if_is (a := "word") (b := "bad") tl
      rw [kk] at ki
      have sl := slS_is (f := iVar 0) (lo := iPart (iVar 3)) (hi := iPart (iBin gAdd (iVar 4) (iCon (.int 1)))) (env := EV L n F (s : Int) (.val (.int (q : Int))) (.val (.str (st [c]))) (.val (.str (if 40 < q + 1 - s then "bad" else "word")))) (l := L) (i := s) (j := q + 1) rfl (part_is rfl) (part_is rfl) (by omega) (by omega)
      have tup : opd (iTup (argC (iVar 6) (argC (iSl (iVar 0) (iPart (iVar 3)) (iPart (iBin gAdd (iVar 4) (iCon (.int 1))))) (argC (iVar 1) (argC (iBin gAdd (iVar 3) (iCon (.int 1))) argN))))) (EV L n F (s : Int) (.val (.int (q : Int))) (.val (.str (st [c]))) (.val (.str (if 40 < q + 1 - s then "bad" else "word")))) = some (.val (tk (if 40 < q + 1 - s then "bad" else "word") (st ((L.drop s).take (q + 1 - s))) n ((s : Int) + 1)), EV L n F (s : Int) (.val (.int (q : Int))) (.val (.str (st [c]))) (.val (.str (if 40 < q + 1 - s then "bad" else "word")))) := by
        refine opd_val ?_
        unfold DL.iTup argC
        rw [show opd (iVar 6) (EV L n F (s : Int) (.val (.int (q : Int))) (.val (.str (st [c]))) (.val (.str (if 40 < q + 1 - s then "bad" else "word")))) = some (.val (.str (if 40 < q + 1 - s then "bad" else "word")), EV L n F (s : Int) (.val (.int (q : Int))) (.val (.str (st [c]))) (.val (.str (if 40 < q + 1 - s then "bad" else "word")))) from rfl]
        simp only [Option.bind_some, opd_val sl]
        rfl
      have stp := head (EV L n (F ++ [tk (if 40 < q + 1 - s then "bad" else "word") (st ((L.drop s).take (q + 1 - s))) n ((s : Int) + 1)]) (s : Int) (.val (.int (q : Int))) (.val (.str (st [c]))) (.val (.str (if 40 < q + 1 - s then "bad" else "word")))) ((iIfS_true two').trans ((iSeq_next (iAsg_val ki (setV_free (w := w6) rfl f6))).trans (app_is (ds := F) (ds0 := F) (p := false) (p0 := false) rfl tup rfl (by omega))))
      refine ⟨.val (.int (q : Int)), .val (.str (st [c])), .val (.str (if 40 < q + 1 - s then ("bad" : Str) else ("word" : Str))), free_val, free_val, free_val, ?_⟩
      rw [show ([c] : List Nat).length + m = m + 1 by simp only [List.length_singleton]; omega]
      show floop (iNm 4) (db G_isw) (.int (q : Int) :: rg (q + 1) m) _ = _
      exact floop_step (setV_free (w := w4) rfl f4) stp
end
end Tk

namespace Tk
open PySem L2 DL
abbrev eqc : EvT := (iAndT (iTst (iBin gEq (iVar 5) (iCon (.str "=")))) (iAndT (iTst (iBin gGt (iVar 4) (iCon (.int 0)))) (iTst (iBin gEq (iBin gIx (iVar 0) (iBin DL.gSub (iVar 4) (iCon (.int 1)))) (iCon (.str "!"))))))
theorem iSeq_nx {s u : StF} {env e e2 : Nv} (h : s env = some (.next e)) (k : u e = some (.next e2)) : iSeq s u env = some (.next e2) := (iSeq_next h).trans k
section
variable {L : List Nat} (hL : L.length ≤ 50000) {n : Int}
include hL
theorem sc_is {F : List D} {s : Int} {q c : Nat} {w6 : Sl} (hd : 0 < q → ∃ d, L[q - 1]? = some d) : eqc (EV L n F s (.val (.int (q : Int))) (.val (.str (st [c]))) w6) = some (decide (c = 61 ∧ 0 < q ∧ L[q - 1]? = some 33), EV L n F s (.val (.int (q : Int))) (.val (.str (st [c]))) w6) := by
  have a : iTst (iBin gEq (iVar 5) (iCon (.str "="))) (EV L n F s (.val (.int (q : Int))) (.val (.str (st [c]))) w6) = some (decide (c = 61), EV L n F s (.val (.int (q : Int))) (.val (.str (st [c]))) w6) := by
    refine tst_is (bop_is (d := .str (st [c])) (d' := .str "=") rfl rfl ?_)
    rw [gEq_str]
    congr 3
    rw [decide_eq_decide, s_eq, st_inj]
    simp
  have b : iTst (iBin gGt (iVar 4) (iCon (.int 0))) (EV L n F s (.val (.int (q : Int))) (.val (.str (st [c]))) w6) = some (decide ((0 : Int) < (q : Int)), EV L n F s (.val (.int (q : Int))) (.val (.str (st [c]))) w6) := tst_is (bop_is (d := .int (q : Int)) (d' := .int 0) rfl rfl gGt_int)
  by_cases h1 : c = 61
  · rw [decide_eq_true h1] at a
    by_cases h2 : 0 < q
    · rw [decide_eq_true (by omega)] at b
      obtain ⟨d, hd⟩ := hd h2
      have e : iTst (iBin gEq (iBin gIx (iVar 0) (iBin DL.gSub (iVar 4) (iCon (.int 1)))) (iCon (.str "!"))) (EV L n F s (.val (.int (q : Int))) (.val (.str (st [c]))) w6) = some (decide (d = 33), EV L n F s (.val (.int (q : Int))) (.val (.str (st [c]))) w6) := by
        refine tst_is (bop_is (d := .str (st [d])) (d' := .str "!") (prev_is hL h2 hd) rfl ?_)
        rw [gEq_str]
        congr 3
        rw [decide_eq_decide, s_bang, st_inj]
        simp
      refine (andT_t a).trans ((andT_t b).trans (e.trans ?_))
      congr 2
      rw [decide_eq_decide, hd]
      simp [h1, h2]
    · rw [decide_eq_false (by omega)] at b
      refine (andT_t a).trans ((andT_f b).trans ?_)
      rw [decide_eq_false (fun z => h2 z.2.1)]
  · rw [decide_eq_false h1] at a
    refine (andT_f a).trans ?_
    rw [decide_eq_false (fun z => h1 z.1)]
omit hL in
theorem sg_is {F : List D} {s : Int} {q c : Nat} {w6 : Sl} : iTst (iBin (alt (gIn false) (gInS false)) (iVar 5) (iCon (.str "(),.:="))) (EV L n F s (.val (.int (q : Int))) (.val (.str (st [c]))) w6) = some (decide (c ∈ SG.cps.toList), EV L n F s (.val (.int (q : Int))) (.val (.str (st [c]))) w6) :=
  tst_is (bop_is (d := .str (st [c])) (d' := .str SG) rfl rfl (in_st c SG))
omit hL in
theorem nb_is {F : List D} {s : Int} {q c : Nat} {w6 : Sl} : iAndT (iTst (iBin gNe (iVar 5) (iCon (.str " ")))) (iTst (iBin gNe (iVar 5) (iCon (.str "\t")))) (EV L n F s (.val (.int (q : Int))) (.val (.str (st [c]))) w6) = some (decide (c ≠ 32 ∧ c ≠ 9), EV L n F s (.val (.int (q : Int))) (.val (.str (st [c]))) w6) := by
  have a : iTst (iBin gNe (iVar 5) (iCon (.str " "))) (EV L n F s (.val (.int (q : Int))) (.val (.str (st [c]))) w6) = some (!decide (c = 32), EV L n F s (.val (.int (q : Int))) (.val (.str (st [c]))) w6) := by
    refine tst_is (bop_is (d := .str (st [c])) (d' := .str " ") rfl rfl ?_)
    rw [gNe_str]
    congr 4
    rw [decide_eq_decide, s_sp, st_inj]
    simp
  have b : iTst (iBin gNe (iVar 5) (iCon (.str "\t"))) (EV L n F s (.val (.int (q : Int))) (.val (.str (st [c]))) w6) = some (!decide (c = 9), EV L n F s (.val (.int (q : Int))) (.val (.str (st [c]))) w6) := by
    refine tst_is (bop_is (d := .str (st [c])) (d' := .str "\t") rfl rfl ?_)
    rw [gNe_str]
    congr 4
    rw [decide_eq_decide, s_tab, st_inj]
    simp
  by_cases h : c = 32
  · rw [decide_eq_true h] at a
    refine (andT_f a).trans ?_
    rw [decide_eq_false (fun z => z.1 h)]
  · rw [decide_eq_false h] at a
    refine (andT_t a).trans (b.trans ?_)
    congr 2
    simp [h]
/-- a sign that stands for itself, or nothing -/
theorem db_sign {F : List D} {s : Int} {q c : Nat} {w5 w6 : Sl} (g1 : L[q]? = some c) (g3 : q < L.length) (hc : W c = false) (h35 : c ≠ 35) (f5 : Free w5) {e : Nv} (he : signPart (EV L n F s (.val (.int (q : Int))) (.val (.str (st [c]))) w6) = some (.next e)) : db G_isw (EV L n F s (.val (.int (q : Int))) w5 w6) = some (.next e) := by
  have hh := hash_is (L := L) (n := n) (F := F) (s := s) (q := q) (c := c) (w6 := w6)
  rw [decide_eq_false h35] at hh
  have hi := isw_is (L := L) (n := n) (F := F) (s := s) (q := q) (c := c) (w6 := w6)
  rw [hc] at hi
  refine (iSeq_next (sign_is hL g1 f5)).trans ?_
  refine (iSeq_next ((iIfS_false hh).trans rfl)).trans ?_
  exact (iIfS_false hi).trans he
omit hL in
theorem tup4 {F : List D} {s : Int} {q : Nat} {x w6 : Sl} {f g : EvF} {k w : Str} (hf : opd f (EV L n F s (.val (.int (q : Int))) x w6) = some (.val (.str k), EV L n F s (.val (.int (q : Int))) x w6)) (hg : opd g (EV L n F s (.val (.int (q : Int))) x w6) = some (.val (.str w), EV L n F s (.val (.int (q : Int))) x w6)) {h : EvF} {i : Int} (hh : opd h (EV L n F s (.val (.int (q : Int))) x w6) = some (.val (.int i), EV L n F s (.val (.int (q : Int))) x w6)) :
    opd (iTup (argC f (argC g (argC (iVar 1) (argC h argN))))) (EV L n F s (.val (.int (q : Int))) x w6) = some (.val (tk k w n i), EV L n F s (.val (.int (q : Int))) x w6) := by
  refine opd_val ?_
  unfold DL.iTup argC
  rw [hf]
  simp only [Option.bind_some, hg]
  rw [show opd (iVar 1) (EV L n F s (.val (.int (q : Int))) x w6) = some (.val (.int n), EV L n F s (.val (.int (q : Int))) x w6) from rfl]
  simp only [Option.bind_some, hh]
  rfl
theorem sp_one {F : List D} {s : Int} {q c : Nat} {w6 : Sl} (hd : 0 < q → ∃ d, L[q - 1]? = some d) (h : ¬ (c = 61 ∧ 0 < q ∧ L[q - 1]? = some 33)) (hb : c ≠ 32 ∧ c ≠ 9) (hF : F.length < 100000) :
    signPart (EV L n F s (.val (.int (q : Int))) (.val (.str (st [c]))) w6) = some (.next (EV L n (F ++ [tk (if c ∈ SG.cps.toList then "sign" else "bad") (st [c]) n ((q : Int) + 1)]) s (.val (.int (q : Int))) (.val (.str (st [c]))) w6)) := by
  have a := sc_is hL (n := n) (F := F) (s := s) (q := q) (c := c) (w6 := w6) hd
  rw [decide_eq_false h] at a
  refine (iIfS_false a).trans ?_
  have b := sg_is (L := L) (n := n) (F := F) (s := s) (q := q) (c := c) (w6 := w6)
  by_cases hg : c ∈ SG.cps.toList
  · rw [decide_eq_true hg] at b
    rw [if_pos hg]
    exact (iIfS_true b).trans (app_is (ds := F) (ds0 := F) (p := false) (p0 := false) rfl (tup4 (k := "sign") (w := st [c]) rfl rfl rfl) rfl hF)
  · rw [decide_eq_false hg] at b
    rw [if_neg hg]
    have e := nb_is (L := L) (n := n) (F := F) (s := s) (q := q) (c := c) (w6 := w6)
    rw [decide_eq_true hb] at e
    exact (iIfS_false b).trans ((iIfS_true e).trans (app_is (ds := F) (ds0 := F) (p := false) (p0 := false) rfl (tup4 (k := "bad") (w := st [c]) rfl rfl rfl) rfl hF))
theorem sp_blank {F : List D} {s : Int} {q c : Nat} {w6 : Sl} (hd : 0 < q → ∃ d, L[q - 1]? = some d) (hb : c = 32 ∨ c = 9) :
    signPart (EV L n F s (.val (.int (q : Int))) (.val (.str (st [c]))) w6) = some (.next (EV L n F s (.val (.int (q : Int))) (.val (.str (st [c]))) w6)) := by
  have a := sc_is hL (n := n) (F := F) (s := s) (q := q) (c := c) (w6 := w6) hd
  rw [decide_eq_false (fun z => by omega)] at a
  refine (iIfS_false a).trans ?_
  have b := sg_is (L := L) (n := n) (F := F) (s := s) (q := q) (c := c) (w6 := w6)
  have hg : ¬ c ∈ SG.cps.toList := by
    rcases hb with rfl | rfl
    · exact g32
    · exact g9
  rw [decide_eq_false hg] at b
  have e := nb_is (L := L) (n := n) (F := F) (s := s) (q := q) (c := c) (w6 := w6)
  rw [decide_eq_false (fun z => by omega)] at e
  exact (iIfS_false b).trans ((iIfS_false e).trans rfl)
theorem sp_ne {F : List D} {x : D} {s : Int} {q : Nat} {w6 : Sl} (h0 : 0 < q) (hd : L[q - 1]? = some 33) :
    signPart (EV L n (F ++ [x]) s (.val (.int (q : Int))) (.val (.str (st [61]))) w6) = some (.next (EV L n (F ++ [tk "sign" "!=" n (q : Int)]) s (.val (.int (q : Int))) (.val (.str (st [61]))) w6)) := by
  have a := sc_is hL (n := n) (F := F ++ [x]) (s := s) (q := q) (c := 61) (w6 := w6) (fun _ => ⟨33, hd⟩)
  rw [decide_eq_true ⟨rfl, h0, hd⟩] at a
  refine (iIfS_true a).trans ?_
  have t := tup4 (L := L) (n := n) (F := F ++ [x]) (s := s) (q := q) (x := .val (.str (st [61]))) (w6 := w6) (f := iCon (.str "sign")) (g := iCon (.str "!=")) (h := iVar 4) (k := "sign") (w := "!=") (i := (q : Int)) rfl rfl rfl
  unfold iStL
  rw [t]
  have ix : L2.ixN (F ++ [x]).length (-1) = some F.length := by
    unfold L2.ixN
    simp
    try omega
  have sets : (F ++ [x]).set F.length (tk "sign" "!=" n (q : Int)) = F ++ [tk "sign" "!=" n (q : Int)] := by simp
  show ((L2.ixN (F ++ [x]).length (-1)).bind fun j => some (Fl.next ((EV L n (F ++ [x]) s (.val (.int (q : Int))) (.val (.str (st [61]))) w6).set 2 (.own false (.list ((F ++ [x]).set j (tk "sign" "!=" n (q : Int)))))))) = _
  rw [ix, Option.bind_some, sets]
  rfl
def QD (L : List Nat) (n : Int) (X : List D) : Res → Nv → Prop := fun r e => r = .new (.list X) ∧ ∃ s a b c, e = [.val (.str (st L)), .val (.int n), .no, s, a, b, c]
def ND (L : List Nat) (n : Int) (X : List D) : Nv → Prop := fun e => ∃ s a b c, e = [.val (.str (st L)), .val (.int n), .own false (.list X), s, a, b, c]
theorem due_loop {p : Nat} {cs : List Nat} {ts : List D} (T : Tok n p cs ts) : ∀ (F : List D) (s0 : Int) (w4 w5 w6 : Sl), L.drop p = cs → p ≤ L.length → F.length + cs.length ≤ 49000 →
    (∀ c, 0 < p → L[p - 1]? = some c → W c = true → ∀ d, cs.head? = some d → W d = false) → (0 < p → L[p - 1]? = some 33 → cs.head? ≠ some 61) → Free w4 → Free w5 → Free w6 →
    RetOr (QD L n (F ++ ts)) (ND L n (F ++ ts)) (floop (iNm 4) (db G_isw) (rg p cs.length) (EV L n F s0 w4 w5 w6)) := by
  have back : ∀ p, p ≤ L.length → 0 < p → ∃ d, L[p - 1]? = some d := fun p h h0 => ⟨_, List.getElem?_eq_getElem (by omega)⟩
  induction T with
  | nil p =>
    intro F s0 w4 w5 w6 hd hp hF h1 h2 f4 f5 f6
    rw [List.append_nil]
    exact .inr ⟨_, rfl, _, w4, w5, w6, rfl⟩
  | hash p cs =>
    intro F s0 w4 w5 w6 hd hp hF h1 h2 f4 f5 f6
    obtain ⟨g1, g2, g3⟩ := get_drop hd
    rw [List.append_nil]
    have hh := hash_is (L := L) (n := n) (F := F) (s := s0) (q := p) (c := 35) (w6 := w6)
    have rr : Ret (QD L n F) (iRet (iVar 2) (EV L n F s0 (.val (.int (p : Int))) (.val (.str (st [35]))) w6)) := ret_own rfl rfl ⟨rfl, _, _, _, _, rfl⟩
    obtain ⟨r, e, r1, r2⟩ := rr
    refine .inl ⟨r, e, ?_, r2⟩
    exact floop_ret (setV_free (w := w4) rfl f4) ((iSeq_next (sign_is hL g1 f5)).trans (iSeq_ret ((iIfS_true hh).trans r1)))
  | @blank p c cs ts h t ih =>
    intro F s0 w4 w5 w6 hd hp hF h1 h2 f4 f5 f6
    obtain ⟨g1, g2, g3⟩ := get_drop hd
    have nw : W c = false := by
      rcases h with rfl | rfl
      · exact w32
      · exact w9
    show RetOr _ _ (floop (iNm 4) (db G_isw) (.int (p : Int) :: rg (p + 1) cs.length) _)
    rw [floop_step (setV_free (w := w4) rfl f4) (db_sign hL g1 g3 nw (by omega) f5 (sp_blank hL (back p (by omega)) h))]
    rw [List.length_cons] at hF
    refine ih F s0 _ _ w6 g2 (by omega) (by omega) (fun x _ hx hw => ?_) (fun _ hx => ?_) free_val free_val f6
    · rw [show p + 1 - 1 = p by omega, g1] at hx
      cases hx
      rw [nw] at hw
      cases hw
    · rw [show p + 1 - 1 = p by omega, g1] at hx
      cases hx
      omega
  | @word p w cs ts h0 hw hn t ih =>
    intro F s0 w4 w5 w6 hd hp hF h1 h2 f4 f5 f6
    have first : p = 0 ∨ ∃ d, 0 < p ∧ L[p - 1]? = some d ∧ W d = false := by
      by_cases hp0 : p = 0
      · exact .inl hp0
      · obtain ⟨d, hd'⟩ := back p hp (by omega)
        refine .inr ⟨d, by omega, hd', ?_⟩
        cases hwd : W d with
        | false => rfl
        | true =>
          cases w with
          | nil => exact absurd rfl h0
          | cons c w =>
            have := h1 d (by omega) hd' hwd c rfl
            rw [hw c List.mem_cons_self] at this
            cases this
    rw [List.length_append] at hF
    obtain ⟨a, b, d, fa, fb, fd, e⟩ := due_word hL (n := n) (s := p) hn w p cs.length s0 w4 w5 w6 F h0 hd hw (Nat.le_refl _) (.inl ⟨rfl, first⟩) (by omega) f4 f5 f6
    rw [List.length_append, e, show p + w.length - p = w.length by omega]
    have dr : L.drop (p + w.length) = cs := by rw [← List.drop_drop, hd, List.drop_left' rfl]
    have wl : 0 < w.length := List.length_pos_iff.mpr h0
    have pl : p + w.length ≤ L.length := by
      have := congrArg List.length hd
      rw [List.length_drop, List.length_append] at this
      omega
    have lst : ∃ c, L[p + w.length - 1]? = some c ∧ W c = true := by
      have e1 : L[p + w.length - 1]? = (L.drop p)[w.length - 1]? := by rw [List.getElem?_drop]; congr 1; omega
      rw [e1, hd, List.getElem?_append_left (by omega), List.getElem?_eq_getElem (by omega)]
      exact ⟨_, rfl, hw _ (List.getElem_mem _)⟩
    obtain ⟨lc, l1, l2⟩ := lst
    rw [hd, List.take_left' rfl]
    have r := ih (F ++ [tk (if 40 < w.length then "bad" else "word") (st w) n ((p : Int) + 1)]) (p : Int) a b d dr pl (by rw [List.length_append, List.length_singleton]; omega) (fun x _ hx hwx y hy => hn y hy) (fun _ hx => by
      rw [l1] at hx
      cases hx
      rw [w33] at l2
      cases l2) fa fb fd
    rw [List.append_assoc] at r
    exact r
  | @ne p cs ts t ih =>
    intro F s0 w4 w5 w6 hd hp hF h1 h2 f4 f5 f6
    obtain ⟨g1, g2, g3⟩ := get_drop hd
    obtain ⟨k1, k2, k3⟩ := get_drop g2
    rw [List.length_cons, List.length_cons] at hF
    have s1 := sp_one hL (n := n) (F := F) (s := s0) (q := p) (c := 33) (w6 := w6) (back p (by omega)) (fun z => by omega) (by omega) (by omega)
    have s2 := sp_ne hL (n := n) (F := F) (x := tk (if 33 ∈ SG.cps.toList then "sign" else "bad") (st [33]) n ((p : Int) + 1)) (s := s0) (q := p + 1) (w6 := w6) (by omega) (by rw [show p + 1 - 1 = p by omega]; exact g1)
    show RetOr _ _ (floop (iNm 4) (db G_isw) (.int (p : Int) :: .int ((p + 1 : Nat) : Int) :: rg (p + 1 + 1) cs.length) _)
    rw [floop_step (setV_free (w := w4) rfl f4) (db_sign hL g1 g3 w33 (by omega) f5 s1)]
    rw [floop_step (setV_free (w := .val (.int (p : Int))) rfl free_val) (db_sign hL k1 k3 w61 (by omega) (w5 := .val (.str (st [33]))) free_val s2)]
    have r := ih (F ++ [tk "sign" "!=" n ((p + 1 : Nat) : Int)]) s0 (.val (.int ((p + 1 : Nat) : Int))) (.val (.str (st [61]))) w6 k2 (by omega) (by rw [List.length_append, List.length_singleton]; omega) (fun x _ hx hwx => by
      rw [show p + 2 - 1 = p + 1 by omega, k1] at hx
      cases hx
      rw [w61] at hwx
      cases hwx) (fun _ hx => by
      rw [show p + 2 - 1 = p + 1 by omega, k1] at hx
      cases hx) free_val free_val f6
    rw [List.append_assoc] at r
    exact r
  | @one p c cs ts hb hc h3 t ih =>
    intro F s0 w4 w5 w6 hd hp hF h1 h2 f4 f5 f6
    obtain ⟨g1, g2, g3⟩ := get_drop hd
    rw [List.length_cons] at hF
    have s1 := sp_one hL (n := n) (F := F) (s := s0) (q := p) (c := c) (w6 := w6) (back p (by omega)) (fun z => h2 z.2.1 z.2.2 (by rw [z.1]; rfl)) hb.2 (by omega)
    show RetOr _ _ (floop (iNm 4) (db G_isw) (.int (p : Int) :: rg (p + 1) cs.length) _)
    rw [floop_step (setV_free (w := w4) rfl f4) (db_sign hL g1 g3 hc hb.1 f5 s1)]
    have r := ih (F ++ [tk (if c ∈ SG.cps.toList then "sign" else "bad") (st [c]) n ((p : Int) + 1)]) s0 (.val (.int (p : Int))) (.val (.str (st [c]))) w6 g2 (by omega) (by rw [List.length_append, List.length_singleton]; omega) (fun x _ hx hwx => by
      rw [show p + 1 - 1 = p by omega, g1] at hx
      cases hx
      rw [hc] at hwx
      cases hwx) (fun _ hx => by
      rw [show p + 1 - 1 = p by omega, g1] at hx
      cases hx
      exact h3 rfl) free_val free_val f6
    rw [List.append_assoc] at r
    exact r
theorem due_eq (h49 : L.length ≤ 49000) {ts : List D} (T : Tok n 0 L ts) : runDef 2 7 (m_due G_isw) [.val (.str (st L)), .val (.int n)] = some (.new (.list ts), [.val (.str (st L)), .val (.int n)]) := by
  refine run_new (n := 2) (N := 7) (g := m_due G_isw) (sls := [.val (.str (st L)), .val (.int n)]) ?_
  show Ret _ (m_due G_isw [.val (.str (st L)), .val (.int n), .no, .no, .no, .no, .no])
  unfold m_due
  refine seq_is (e := [.val (.str (st L)), .val (.int n), .own false (.list []), .no, .no, .no, .no]) rfl ?_
  refine seq_is (e := EV L n [] 0 .no .no .no) rfl ?_
  have it : iR1 (argC (iCB (c1 gLen) (argC (iVar 0) argN)) argN) (EV L n [] 0 .no .no .no) = some (rngD 0 L.length, EV L n [] 0 .no .no .no) := r1_is (opd_val (cb_is rfl (len_st (by omega)))) (by omega)
  have lp := due_loop hL T [] 0 .no .no .no rfl (Nat.zero_le _) (by simp; omega) (fun _ h => absurd h (Nat.lt_irrefl _)) (fun h => absurd h (Nat.lt_irrefl _)) free_no free_no free_no
  have fr : iFor (iR1 (argC (iCB (c1 gLen) (argC (iVar 0) argN)) argN)) (iNm 4) (db G_isw) (EV L n [] 0 .no .no .no) = floop (iNm 4) (db G_isw) (rg 0 L.length) (EV L n [] 0 .no .no .no) := by
    unfold iFor
    rw [it, rng_rg]
    rfl
  rw [← fr, List.nil_append] at lp
  rcases lp with ⟨r, e, h1, rfl, s, a, b, c, rfl⟩ | ⟨e, h1, s, a, b, c, rfl⟩
  · exact ⟨_, _, iSeq_ret h1, rfl, rfl⟩
  · refine seq_is h1 ?_
    exact ret_own rfl rfl ⟨rfl, rfl⟩
end
end Tk

namespace LK24
open PySem PySem.Spec PyProof.Rows L2 DL
def top (i : Nat) : Stmt := PySem.Challenge.pw_lastproof_k24_tokens_of_a_line.main.body.getD i (.Pass ⟨0, 0, 0, 0⟩)
/-! ### word_at -/
theorem sc_word_at : FnScope ["line_text", "start", "end"] ["line_text", "start"] (defScope (top 6)) := ⟨rfl, rfl, rfl, by decide +kernel, rfl, by decide +kernel, by decide +kernel⟩
def m_word_at  : StF :=
    (iSeq (iAsg false 2 (iVar 1))
    (iSeq (wloop (iAndT (iTst (iBin gLt (iVar 2) (iCB (c1 gLen) (argC (iVar 0) argN)))) (iTst (iBin (alt (gIn false) (gInS false)) (iBin gIx (iVar 0) (iVar 2)) (iCon (.str "abcdefghijklmnopqrstuvwxyzABCDEFGHIJKLMNOPQRSTUVWXYZ0123456789_"))))) (iAug 2 (fun i j => i + j) (iCon (.int 1))) 1000000)
    (iRet (iSl (iVar 0) (iPart (iVar 1)) (iPart (iVar 2))))))
def f_word_at  : Fn := runDef 2 3 (m_word_at )
/-! ### token_at -/
theorem sc_token_at : FnScope ["line_text", "start", "word", "character"] ["line_text", "start"] (defScope (top 5)) := ⟨rfl, rfl, rfl, by decide +kernel, rfl, by decide +kernel, by decide +kernel⟩
def m_token_at (g_word_at : Fn) : StF :=
    (iSeq (iAsg false 2 (iCall g_word_at (argC (iVar 0) (argC (iVar 1) argN))))
    (iSeq (iIfS (iTru (iVar 2)) (iRet (iTup (argC (iIf (iTst (iBin gGt (iCB (c1 gLen) (argC (iVar 2) argN)) (iCon (.int 40)))) (iCon (.str "bad")) (iCon (.str "word"))) (argC (iVar 2) argN)))) iNext)
    (iSeq (iIfS (iTst (iBin gEq (iSl (iVar 0) (iPart (iVar 1)) (iPart (iBin gAdd (iVar 1) (iCon (.int 2))))) (iCon (.str "!=")))) (iRet (iTup (argC (iCon (.str "sign")) (argC (iCon (.str "!=")) argN)))) iNext)
    (iSeq (iAsg false 3 (iBin gIx (iVar 0) (iVar 1)))
    (iRet (iTup (argC (iIf (iTst (iBin (alt (gIn false) (gInS false)) (iVar 3) (iCon (.str "(),.:=")))) (iCon (.str "sign")) (iCon (.str "bad"))) (argC (iVar 3) argN))))))))
def f_token_at (g_word_at : Fn) : Fn := runDef 2 4 (m_token_at g_word_at)
/-! ### tokens -/
theorem sc_tokens : FnScope ["line_text", "line", "found", "start", "kind", "word"] ["line_text", "line"] (defScope (top 4)) := ⟨rfl, rfl, rfl, by decide +kernel, rfl, by decide +kernel, by decide +kernel⟩
def m_tokens (g_token_at : Fn) : StF :=
    (iSeq (iAsg true 2 (iLst argN))
    (iSeq (iAsg false 3 (iCon (.int 0)))
    (iSeq (wloop (iAndT (iTst (iBin gLt (iVar 3) (iCB (c1 gLen) (argC (iVar 0) argN)))) (iTst (iBin gNe (iBin gIx (iVar 0) (iVar 3)) (iCon (.str "#"))))) (iIfS (iTst (iBin (alt (gIn false) (gInS false)) (iBin gIx (iVar 0) (iVar 3)) (iCon (.str " \t")))) (iAug 3 (fun i j => i + j) (iCon (.int 1))) (iSeq (iAsgT (iGT (iGC (iNm 4) (iGC (iNm 5) iGN)) 2) (iCall g_token_at (argC (iVar 0) (argC (iVar 3) argN))))
    (iSeq (iApp 2 (iTup (argC (iVar 4) (argC (iVar 5) (argC (iVar 1) (argC (iBin gAdd (iVar 3) (iCon (.int 1))) argN))))))
    (iAug 3 (fun i j => i + j) (iCB (c1 gLen) (argC (iVar 5) argN)))))) 1000000)
    (iRet (iVar 2)))))
def f_tokens (g_token_at : Fn) : Fn := runDef 2 6 (m_tokens g_token_at)
/-! ### _law_cell -/
theorem sc__law_cell : FnScope ["script", "k", "cell", "low", "mid", "high"] ["script", "k"] (defScope (top 8)) := ⟨rfl, rfl, rfl, by decide +kernel, rfl, by decide +kernel, by decide +kernel⟩
def m__law_cell  : StF :=
    (iSeq (iAsg false 2 (iBin gAdd (iBin gMulL (iCon (.int 7)) (iVar 1)) (iCon (.int 3))))
    (iSeq (iIfS (iTst (iBin gLt (iVar 1) (iCB (c1 gLen) (argC (iVar 0) argN)))) (iAsg false 2 (iBin gIx (iVar 0) (iVar 1))) iNext)
    (iSeq (iIfS (iTst (iBin gLt (iVar 2) (iCon (.int 0)))) (iAsg false 2 (iBin DL.gSub (iCon (.int 1)) (iBin gMulL (iCon (.int 2)) (iVar 2)))) iNext)
    (iSeq (iIfS (iTst (iBin gLt (iVar 2) (iCon (.int 1000000000)))) (iSeq (iAsg false 3 (iBin gMod (iCB (c1 gInt) (argC (iBin gAdd (iBin gAdd (iBin gMulR (iVar 2) (iCon (.int 48271))) (iBin gMulR (iVar 1) (iCon (.int 69621)))) (iCon (.int 11))) argN)) (iCon (.int 2147483647))))
    (iSeq (iAsg false 4 (iBin gMod (iCB (c1 gInt) (argC (iBin gAdd (iBin gAdd (iBin gMulR (iVar 3) (iCon (.int 16807))) (iBin gMulR (iVar 1) (iCon (.int 31)))) (iCon (.int 1013))) argN)) (iCon (.int 2147483629))))
    (iSeq (iAsg false 5 (iBin gMod (iCB (c1 gInt) (argC (iBin gAdd (iBin gAdd (iBin gMulR (iVar 4) (iCon (.int 39373))) (iVar 3)) (iCon (.int 77))) argN)) (iCon (.int 2147483587))))
    (iAsg false 2 (iBin gAdd (iBin gMulR (iBin gAdd (iBin gMulR (iVar 5) (iCon (.int 2147483647))) (iVar 4)) (iCon (.int 2147483647))) (iVar 3)))))) iNext)
    (iRet (iVar 2))))))
def f__law_cell  : Fn := runDef 2 6 (m__law_cell )
/-! ### _law_is_integer -/
theorem sc__law_is_integer : FnScope ["actual"] ["actual"] (defScope (top 9)) := ⟨rfl, rfl, rfl, by decide +kernel, rfl, by decide +kernel, by decide +kernel⟩
def m__law_is_integer  : StF :=
    (iRet (iAnd (iIsi "int" (iVar 0)) (iNot (iIsi "bool" (iVar 0)))))
def f__law_is_integer  : Fn := runDef 1 1 (m__law_is_integer )
/-! ### _law_drawn -/
theorem sc__law_drawn : FnScope ["row", "many", "signs", "line", "k"] ["row", "many"] (defScope (top 10)) := ⟨rfl, rfl, rfl, by decide +kernel, rfl, by decide +kernel, by decide +kernel⟩
def m__law_drawn  : StF :=
    (iSeq (iAsg false 2 (iCon (.str "aZ_9 (),.:=!# \tbx0=!();&+-<>*/?@")))
    (iSeq (iAsg false 3 (iCon (.str "")))
    (iSeq (iFor (iR1 (argC (iVar 1) argN)) (iNm 4) (iSeq (iAsg false 3 (iBin gAdd (iVar 3) (iBin gIx (iVar 2) (iBin gMod (iCB (c1 gInt) (argC (iVar 0) argN)) (iCon (.int 32))))))
    (iAsg false 0 (iBin gDiv (iVar 0) (iCon (.int 32))))))
    (iRet (iVar 3)))))
def f__law_drawn  : Fn := runDef 2 5 (m__law_drawn )
/-! ### _law_is_word -/
theorem sc__law_is_word : FnScope ["sign"] ["sign"] (defScope (top 11)) := ⟨rfl, rfl, rfl, by decide +kernel, rfl, by decide +kernel, by decide +kernel⟩
def m__law_is_word  : StF :=
    (iRet (iAnd (iBin gNe (iVar 0) (iCon (.str ""))) (iBin (alt (gIn false) (gInS false)) (iVar 0) (iCon (.str "abcdefghijklmnopqrstuvwxyzABCDEFGHIJKLMNOPQRSTUVWXYZ0123456789_")))))
def f__law_is_word  : Fn := runDef 1 1 (m__law_is_word )
/-! ### _law_due -/
theorem sc__law_due : FnScope ["line", "number", "found", "start", "k", "sign", "kind"] ["line", "number"] (defScope (top 12)) := ⟨rfl, rfl, rfl, by decide +kernel, rfl, by decide +kernel, by decide +kernel⟩
def m__law_due (g__law_is_word : Fn) : StF :=
    (iSeq (iAsg true 2 (iLst argN))
    (iSeq (iAsg false 3 (iCon (.int 0)))
    (iSeq (iFor (iR1 (argC (iCB (c1 gLen) (argC (iVar 0) argN)) argN)) (iNm 4) (iSeq (iAsg false 5 (iBin gIx (iVar 0) (iVar 4)))
    (iSeq (iIfS (iTst (iBin gEq (iVar 5) (iCon (.str "#")))) (iRet (iVar 2)) iNext)
    (iIfS (iTru (iCall g__law_is_word (argC (iVar 5) argN))) (iSeq (iIfS (iOrT (iTst (iBin gEq (iVar 4) (iCon (.int 0)))) (iNotT (iTru (iCall g__law_is_word (argC (iBin gIx (iVar 0) (iBin DL.gSub (iVar 4) (iCon (.int 1)))) argN))))) (iAsg false 3 (iVar 4)) iNext)
    (iIfS (iNotT (iTru (iCall g__law_is_word (argC (iSl (iVar 0) (iPart (iBin gAdd (iVar 4) (iCon (.int 1)))) (iPart (iBin gAdd (iVar 4) (iCon (.int 2))))) argN)))) (iSeq (iAsg false 6 (iIf (iTst (iBin gLe (iBin DL.gSub (iBin gAdd (iVar 4) (iCon (.int 1))) (iVar 3)) (iCon (.int 40)))) (iCon (.str "word")) (iCon (.str "bad"))))
    (iApp 2 (iTup (argC (iVar 6) (argC (iSl (iVar 0) (iPart (iVar 3)) (iPart (iBin gAdd (iVar 4) (iCon (.int 1))))) (argC (iVar 1) (argC (iBin gAdd (iVar 3) (iCon (.int 1))) argN))))))) iNext)) (iIfS (iAndT (iTst (iBin gEq (iVar 5) (iCon (.str "=")))) (iAndT (iTst (iBin gGt (iVar 4) (iCon (.int 0)))) (iTst (iBin gEq (iBin gIx (iVar 0) (iBin DL.gSub (iVar 4) (iCon (.int 1)))) (iCon (.str "!")))))) (iStL 2 (iUn gNeg (iCon (.int 1))) (iTup (argC (iCon (.str "sign")) (argC (iCon (.str "!=")) (argC (iVar 1) (argC (iVar 4) argN)))))) (iIfS (iTst (iBin (alt (gIn false) (gInS false)) (iVar 5) (iCon (.str "(),.:=")))) (iApp 2 (iTup (argC (iCon (.str "sign")) (argC (iVar 5) (argC (iVar 1) (argC (iBin gAdd (iVar 4) (iCon (.int 1))) argN)))))) (iIfS (iAndT (iTst (iBin gNe (iVar 5) (iCon (.str " ")))) (iTst (iBin gNe (iVar 5) (iCon (.str "\t"))))) (iApp 2 (iTup (argC (iCon (.str "bad")) (argC (iVar 5) (argC (iVar 1) (argC (iBin gAdd (iVar 4) (iCon (.int 1))) argN)))))) iNext)))))))
    (iRet (iVar 2)))))
def f__law_due (g__law_is_word : Fn) : Fn := runDef 2 7 (m__law_due g__law_is_word)
/-! ### law -/
theorem sc_law : FnScope ["script", "line", "k", "number", "told", "token", "at"] ["script"] (defScope (top 13)) := ⟨rfl, rfl, rfl, by decide +kernel, rfl, by decide +kernel, by decide +kernel⟩
def m_law (g_tokens : Fn) (g__law_is_integer : Fn) (g__law_due : Fn) (g__law_cell : Fn) (g__law_drawn : Fn) : StF :=
    (iSeq (iAsg false 1 (iCon (.str "")))
    (iSeq (iFor (iR1 (argC (iBin gAdd (iCon (.int 1)) (iBin gMod (iCall g__law_cell (argC (iVar 0) (argC (iCon (.int 0)) argN))) (iCon (.int 3)))) argN)) (iNm 2) (iAsg false 1 (iBin gAdd (iVar 1) (iCall g__law_drawn (argC (iCall g__law_cell (argC (iVar 0) (argC (iBin gAdd (iCon (.int 1)) (iVar 2)) argN))) (argC (iBin gAdd (iCon (.int 1)) (iBin gMod (iCall g__law_cell (argC (iVar 0) (argC (iBin gAdd (iCon (.int 4)) (iVar 2)) argN))) (iCon (.int 13)))) argN))))))
    (iSeq (iIfS (iTst (iBin gEq (iBin gMod (iCall g__law_cell (argC (iVar 0) (argC (iCon (.int 7)) argN))) (iCon (.int 4))) (iCon (.int 0)))) (iSeq (iAsg false 6 (iBin gMod (iCall g__law_cell (argC (iVar 0) (argC (iCon (.int 8)) argN))) (iBin gAdd (iCB (c1 gLen) (argC (iVar 1) argN)) (iCon (.int 1)))))
    (iAsg false 1 (iBin gAdd (iBin gAdd (iSl (iVar 1) iNoP (iPart (iVar 6))) (iBin gMulS (iCon (.str "k")) (iBin gAdd (iCon (.int 38)) (iBin gMod (iCall g__law_cell (argC (iVar 0) (argC (iCon (.int 9)) argN))) (iCon (.int 6)))))) (iSl (iVar 1) (iPart (iVar 6)) iNoP)))) iNext)
    (iSeq (iAsg false 3 (iBin gAdd (iCon (.int 1)) (iBin gMod (iCall g__law_cell (argC (iVar 0) (argC (iCon (.int 10)) argN))) (iBin gPow (iCon (.int 10)) (iCon (.int 9))))))
    (iSeq (iAsg false 4 (iCall g_tokens (argC (iVar 1) (argC (iVar 3) argN))))
    (iSeq (iIfS (iOrT (iNotT (iTru (iIsi "list" (iVar 4)))) (iTst (iBin gNe (iVar 4) (iCall g__law_due (argC (iVar 1) (argC (iVar 3) argN)))))) (iRet (iCon (.bool false))) iNext)
    (iSeq (iFor (iSeqI (iVar 4)) (iNm 5) (iIfS (iOrT (iNotT (iTru (iIsi "tuple" (iVar 5)))) (iOrT (iNotT (iTru (iCall g__law_is_integer (argC (iBin gIx (iVar 5) (iCon (.int 2))) argN)))) (iNotT (iTru (iCall g__law_is_integer (argC (iBin gIx (iVar 5) (iCon (.int 3))) argN)))))) (iRet (iCon (.bool false))) iNext))
    (iRet (iAnd (iBin gEq (iCall g_tokens (argC (iCon (.str "")) (argC (iCon (.int 4)) argN))) (iLst argN)) (iBin gEq (iCall g_tokens (argC (iCon (.str "# x")) (argC (iCon (.int 4)) argN))) (iLst argN)))))))))))
def f_law (g_tokens : Fn) (g__law_is_integer : Fn) (g__law_due : Fn) (g__law_cell : Fn) (g__law_drawn : Fn) : Fn := runDef 1 7 (m_law g_tokens g__law_is_integer g__law_due g__law_cell g__law_drawn)
def F_word_at : Fn := f_word_at 
def F_token_at : Fn := f_token_at F_word_at
def F_tokens : Fn := f_tokens F_token_at
def F__law_cell : Fn := f__law_cell 
def F__law_is_integer : Fn := f__law_is_integer 
def F__law_drawn : Fn := f__law_drawn 
def F__law_is_word : Fn := f__law_is_word 
def F__law_due : Fn := f__law_due F__law_is_word
def F_law : Fn := f_law F_tokens F__law_is_integer F__law_due F__law_cell F__law_drawn
open PySem L2 DL
open Sh (scr cell cell_call)
open Tk (st tk Tok G_word G_at G_isw m_word m_tokat m_tokens m_isw m_due)
theorem e_tokens : F_tokens = runDef 2 6 (m_tokens G_at) := rfl
theorem e_due : F__law_due = runDef 2 7 (m_due G_isw) := rfl
/-! the tokens are data -/
def Good (l : List Nat) : Prop := ∀ c ∈ l, c < 0x110000
theorem good_app {a b : List Nat} (h : Good a) (k : Good b) : Good (a ++ b) := fun c hc => (List.mem_append.mp hc).elim (h c) (k c)
theorem ok_st {l : List Nat} (h : Good l) : PyData.strOk (st l) = true := by
  unfold PyData.strOk
  simp only [Array.all_eq_true', List.mem_toArray]
  intro c hc
  simpa using h c hc
theorem good_of {z : Str} (h : PyData.strOk z = true) : Good z.cps.toList := by
  unfold PyData.strOk at h
  intro c hc
  rw [Array.all_eq_true'] at h
  simpa using h c (by simpa using hc)
theorem tok_data {n : Int} {p : Nat} {cs : List Nat} {ts : List D} (T : Tok n p cs ts) : Good cs → ∀ t ∈ ts, ∃ k w i, t = tk k w n i ∧ PyData.strOk k = true ∧ PyData.strOk w = true := by
  induction T with
  | nil p => intro _ t h; cases h
  | hash p cs => intro _ t h; cases h
  | blank h t ih => intro g; exact ih fun c hc => g c (List.mem_cons_of_mem _ hc)
  | @word p w cs ts h0 hw hn t ih =>
    intro g x hx
    rcases List.mem_cons.mp hx with rfl | hx
    · refine ⟨_, _, _, rfl, ?_, ok_st fun c hc => g c (List.mem_append.mpr (.inl hc))⟩
      split <;> decide +kernel
    · exact ih (fun c hc => g c (List.mem_append.mpr (.inr hc))) x hx
  | ne t ih =>
    intro g x hx
    rcases List.mem_cons.mp hx with rfl | hx
    · exact ⟨_, _, _, rfl, by decide +kernel, by decide +kernel⟩
    · exact ih (fun c hc => g c (List.mem_cons_of_mem _ (List.mem_cons_of_mem _ hc))) x hx
  | @one p c cs ts h1 h2 h3 t ih =>
    intro g x hx
    rcases List.mem_cons.mp hx with rfl | hx
    · refine ⟨_, _, _, rfl, ?_, ok_st fun d hd => ?_⟩
      · split <;> decide +kernel
      · rw [List.mem_singleton.mp hd]
        exact g c List.mem_cons_self
    · exact ih (fun d hd => g d (List.mem_cons_of_mem _ hd)) x hx
theorem toks_py {n : Int} : ∀ ts : List D, (∀ t ∈ ts, ∃ k w i, t = tk k w n i ∧ PyData.strOk k = true ∧ PyData.strOk w = true) → ∃ ps, toPy.toPys ts = some ps ∧ PyData.canLayAll0 ps = true ∧ PyData.depthAll ps ≤ 1 ∧ PyData.eqvAll ps ps = true
  | [], _ => ⟨[], rfl, by simp [PyData.canLayAll0], by simp [PyData.depthAll], by simp [PyData.eqvAll]⟩
  | t :: ts, h => by
    obtain ⟨ps, h1, h2, h3, h4⟩ := toks_py ts fun x hx => h x (List.mem_cons_of_mem _ hx)
    obtain ⟨k, w, i, rfl, hk, hw⟩ := h t List.mem_cons_self
    have e : toPy (tk k w n i) = some (.tuple [.str k, .str w, .int n, .int i]) := rfl
    refine ⟨.tuple [.str k, .str w, .int n, .int i] :: ps, ?_, ?_, ?_, ?_⟩
    · simp only [toPy.toPys, e, h1]
    · simp [PyData.canLayAll0, PyData.canLay0, hk, hw, h2]
    · simp only [PyData.depthAll, PyData.depth]
      omega
    · simp [PyData.eqvAll, PyData.eqv, h4]
theorem eqD_toks {n : Int} {ts : List D} (h : ∀ t ∈ ts, ∃ k w i, t = tk k w n i ∧ PyData.strOk k = true ∧ PyData.strOk w = true) : eqD (.list ts) (.list ts) = some true := by
  obtain ⟨ps, h1, h2, h3, h4⟩ := toks_py ts h
  have e : toPy (.list ts) = some (.list ps) := by
    show (toPy.toPys _).map PyData.list = _
    rw [h1]
    rfl
  have c : SeqAt.shaped (.list ps) = true := by
    have c : (PyData.list ps).canLay0 = true := by simp only [PyData.canLay0, h2]
    have d : (PyData.list ps).depth ≤ 64 := by
      simp only [PyData.depth]
      omega
    unfold SeqAt.shaped
    rw [c]
    simp [d]
  show (toPy (.list ts)).bind _ = _
  rw [e, Option.bind_some, Option.bind_some, if_pos ⟨c, c⟩]
  simp only [PyData.eqv, h4]
theorem gNe_toks {n : Int} {ts : List D} (h : ∀ t ∈ ts, ∃ k w i, t = tk k w n i ∧ PyData.strOk k = true ∧ PyData.strOk w = true) : gNe (.list ts) (.list ts) = some (.val (.bool false)) := by
  unfold gNe
  rw [eqD_toks h]
  rfl
theorem gEq_nil : gEq (.list []) (.list []) = some (.val (.bool true)) := by
  unfold gEq
  rw [eqD_toks (n := 0) (ts := []) (fun t h => by cases h)]
  rfl
/-! the line -/
abbrev SS : Str := "aZ_9 (),.:=!# \tbx0=!();&+-<>*/?@"
theorem ss_len : SS.cps.toList.length = 32 := by decide +kernel
theorem ss_ok : PyData.strOk SS = true := by decide +kernel
theorem ss_size : SS.length ≤ 100000 := by decide +kernel
theorem ss_get (r : Int) : ∃ c, L2.atI SS.cps.toList (r % 32) = some c ∧ c < 0x110000 := by
  have h : (r % 32).toNat < SS.cps.toList.length := by rw [ss_len]; omega
  have e : ((r % 32).toNat : Int) = r % 32 := Int.toNat_of_nonneg (by omega)
  refine ⟨SS.cps.toList[(r % 32).toNat], ?_, good_of ss_ok _ (List.getElem_mem h)⟩
  have q := atI_nat (List.getElem?_eq_getElem h)
  rw [e] at q
  exact q
theorem drawn_ex (row : Int) (m : Nat) (hm : m ≤ 13) : ∃ l, F__law_drawn [.val (.int row), .val (.int (m : Int))] = some (.val (.str (st l)), [.val (.int row), .val (.int (m : Int))]) ∧ l.length = m ∧ Good l := by
  have key : ∃ d, F__law_drawn [.val (.int row), .val (.int (m : Int))] = some (.val d, [.val (.int row), .val (.int (m : Int))]) ∧ ∃ l, d = .str (st l) ∧ l.length = m ∧ Good l := by
    refine run_val (n := 2) (N := 5) (g := m__law_drawn) (sls := [.val (.int row), .val (.int (m : Int))]) ?_
    show Ret _ (m__law_drawn [.val (.int row), .val (.int (m : Int)), .no, .no, .no])
    unfold m__law_drawn
    refine seq_is (e := [.val (.int row), .val (.int (m : Int)), .val (.str SS), .no, .no]) rfl ?_
    refine seq_is (e := [.val (.int row), .val (.int (m : Int)), .val (.str SS), .val (.str (st [])), .no]) (by rw [Tk.s_nil]; rfl) ?_
    refine seq_ret (fun e => ∃ (r : Int) (l : List Nat) (w : Sl), l.length = m ∧ Good l ∧ e = [.val (.int r), .val (.int (m : Int)), .val (.str SS), .val (.str (st l)), w]) (for_nxt (ds := rngD 0 m) (e := [.val (.int row), .val (.int (m : Int)), .val (.str SS), .val (.str (st [])), .no]) (fun i e => ∃ (r : Int) (l : List Nat) (w : Sl), l.length = i ∧ Good l ∧ Free w ∧ e = [.val (.int r), .val (.int (m : Int)), .val (.str SS), .val (.str (st l)), w]) (r1_is rfl (by omega)) ⟨row, [], .no, rfl, (fun c h => by cases h), free_no, rfl⟩ ?_ ?_) ?_
    · rintro i d _ hd ⟨r, l, w, hl, hg, fw, rfl⟩
      obtain ⟨rfl, hi⟩ := rng_get hd
      refine ⟨_, setV_free (w := w) rfl fw, ?_⟩
      obtain ⟨c, hc, hb⟩ := ss_get r
      have ix : iBin gIx (iVar 2) (iBin gMod (iCB (c1 gInt) (argC (iVar 0) argN)) (iCon (.int 32))) [.val (.int r), .val (.int (m : Int)), .val (.str SS), .val (.str (st l)), .val (.int (0 + (i : Int)))] = some (.val (.str (st [c])), [.val (.int r), .val (.int (m : Int)), .val (.str SS), .val (.str (st l)), .val (.int (0 + (i : Int)))]) := by
        refine bop_is (d := .str SS) (d' := .int (r % 32)) rfl rfl ?_
        show (if SS.length ≤ 100000 then (L2.atI SS.cps.toList (r % 32)).map fun c => Res.val (.str ⟨#[c]⟩) else none) = _
        rw [if_pos ss_size, hc]
        rfl
      refine seq_nxt (fun e => e = [.val (.int r), .val (.int (m : Int)), .val (.str SS), .val (.str (st (l ++ [c]))), .val (.int (0 + (i : Int)))]) (asg_val (d := .str (st (l ++ [c]))) (bop_is (d := .str (st l)) (d' := .str (st [c])) rfl (opd_val ix) ?_) rfl rfl) ?_
      · rw [gAdd_str, if_pos (by rw [Tk.st_len, Tk.st_len, List.length_singleton]; omega), Tk.st_app]
      · rintro _ rfl
        refine asg_val (d := .int (r / 32)) rfl rfl ⟨r / 32, l ++ [c], _, by rw [List.length_append, hl]; rfl, good_app hg (fun x hx => by rw [List.mem_singleton.mp hx]; exact hb), free_val, rfl⟩
    · rintro _ ⟨r, l, w, hl, hg, _, rfl⟩
      rw [rngD_len] at hl
      exact ⟨r, l, w, hl, hg, rfl⟩
    · rintro _ ⟨r, l, w, hl, hg, rfl⟩
      exact ret_val (d := .str (st l)) rfl ⟨_, rfl, rfl, l, rfl, hl, hg⟩
  obtain ⟨d, h1, l, rfl, h2, h3⟩ := key
  exact ⟨l, h1, h2, h3⟩
theorem cut_to {l : List Nat} {j : Nat} (hl : l.length ≤ 100000) : gSl (.str (st l)) none (some (j : Int)) = some (.val (.str (st (l.take j)))) := by
  show (if (st l).length ≤ 100000 then some (Res.val (.str (cutS (st l) _ _))) else none) = _
  rw [Tk.st_len, if_pos hl]
  unfold cutS
  rw [Tk.st_len, HT.sIx_nat, HT.sIx_none]
  show some (Res.val (.str (st ((l.drop 0).take (min j l.length - 0))))) = _
  rw [List.drop_zero, Nat.sub_zero]
  by_cases h : j ≤ l.length
  · rw [Nat.min_eq_left h]
  · rw [Nat.min_eq_right (by omega), List.take_of_length_le (Nat.le_refl _), List.take_of_length_le (by omega)]
theorem cut_from {l : List Nat} {j : Nat} (hl : l.length ≤ 100000) : gSl (.str (st l)) (some (j : Int)) none = some (.val (.str (st (l.drop j)))) := by
  show (if (st l).length ≤ 100000 then some (Res.val (.str (cutS (st l) _ _))) else none) = _
  rw [Tk.st_len, if_pos hl]
  unfold cutS
  rw [Tk.st_len, HT.sIx_nat, HT.sIx_none]
  show some (Res.val (.str (st ((l.drop (min j l.length)).take (l.length - min j l.length))))) = _
  rw [List.take_of_length_le (by rw [List.length_drop]; omega)]
  by_cases h : j ≤ l.length
  · rw [Nat.min_eq_left h]
  · rw [Nat.min_eq_right (by omega), List.drop_of_length_le (Nat.le_refl _), List.drop_of_length_le (by omega)]
theorem rep_ok (k : Nat) (h : k ≤ 5) : PyData.strOk (repS "k" (38 + k)) = true ∧ (repS "k" (38 + k)).length ≤ 100 := by
  have : k = 0 ∨ k = 1 ∨ k = 2 ∨ k = 3 ∨ k = 4 ∨ k = 5 := by omega
  rcases this with rfl | rfl | rfl | rfl | rfl | rfl <;> decide +kernel
theorem st_of (z : Str) : z = st z.cps.toList := by cases z; simp
theorem intg (i : Int) : F__law_is_integer [.val (.int i)] = some (.val (.bool true), [.val (.int i)]) := by
  refine run_eq (n := 1) (N := 1) (g := m__law_is_integer) (sls := [.val (.int i)]) ?_
  show Ret _ (m__law_is_integer [.val (.int i)])
  unfold m__law_is_integer
  exact ret_val (d := .bool true) (e := [.val (.int i)]) ((and_t (e := [.val (.int i)]) (isi_is (d := .int i) rfl isi_int_int)).trans (not_is (isi_is (d := .int i) rfl isi_bool_int))) ⟨rfl, rfl⟩
theorem s_x : ("# x" : Str) = st [35, 32, 120] := by decide +kernel
theorem law_holds : ∀ ns : List Int, ns.length ≤ 63 → ∃ o, F_law [.val (.list (ns.map D.int))] = some (.val (.bool true), o) := by
  intro ns hl
  refine ⟨_, run_eq (n := 1) (N := 7) (g := m_law F_tokens F__law_is_integer F__law_due F__law_cell F__law_drawn) (sls := [scr ns]) ?_⟩
  show Ret _ (m_law _ _ _ _ _ [scr ns, .no, .no, .no, .no, .no, .no])
  rw [show F__law_cell = runDef 2 6 Sh.m_cell from rfl]
  unfold m_law
  refine seq_is (e := [scr ns, .val (.str (st [])), .no, .no, .no, .no, .no]) (by rw [Tk.s_nil]; rfl) ?_
  -- the drawn parts
  have hm : ((1 + cell ns 0 % 3).toNat : Int) = 1 + cell ns 0 % 3 := Int.toNat_of_nonneg (by omega)
  refine seq_ret (fun e => ∃ (l : List Nat) (w : Sl), l.length ≤ 39 ∧ Good l ∧ e = [scr ns, .val (.str (st l)), w, .no, .no, .no, .no]) (for_nxt (ds := rngD 0 (1 + cell ns 0 % 3).toNat) (e := [scr ns, .val (.str (st [])), .no, .no, .no, .no, .no]) (fun i e => ∃ (l : List Nat) (w : Sl), l.length ≤ 13 * i ∧ Good l ∧ Free w ∧ e = [scr ns, .val (.str (st l)), w, .no, .no, .no, .no]) (r1_is (n := (1 + cell ns 0 % 3).toNat) (by rw [hm]; exact opd_val (bop_is (d := .int 1) (d' := .int (cell ns 0 % 3)) rfl (opd_val (bop_is (d := .int (cell ns 0)) (d' := .int 3) (opd_val (cell_call rfl rfl)) rfl rfl)) rfl)) (by omega)) ⟨[], .no, by simp, (fun c h => by cases h), free_no, rfl⟩ ?_ ?_) ?_
  · rintro i d _ hd ⟨l, w, hll, hg, fw, rfl⟩
    obtain ⟨rfl, hi⟩ := rng_get hd
    rw [Int.zero_add]
    refine ⟨_, setV_free (w := w) rfl fw, ?_⟩
    have hn : ((1 + cell ns (4 + i) % 13).toNat : Int) = 1 + cell ns (4 + i) % 13 := Int.toNat_of_nonneg (by omega)
    obtain ⟨l2, h1, h2, h3⟩ := drawn_ex (cell ns (1 + i)) (1 + cell ns (4 + i) % 13).toNat (by omega)
    rw [hn] at h1
    have a1 : opd (iCall (runDef 2 6 Sh.m_cell) (argC (iVar 0) (argC (iBin gAdd (iCon (.int 1)) (iVar 2)) argN))) [scr ns, .val (.str (st l)), .val (.int (i : Int)), .no, .no, .no, .no] = some (.val (.int (cell ns (1 + i))), [scr ns, .val (.str (st l)), .val (.int (i : Int)), .no, .no, .no, .no]) :=
      opd_val (cell_call (k := 1 + i) rfl (opd_val (bop_is (d := .int 1) (d' := .int (i : Int)) rfl rfl (by rw [gAdd_int]; congr 3; try omega))))
    have a2 : opd (iCall (runDef 2 6 Sh.m_cell) (argC (iVar 0) (argC (iBin gAdd (iCon (.int 4)) (iVar 2)) argN))) [scr ns, .val (.str (st l)), .val (.int (i : Int)), .no, .no, .no, .no] = some (.val (.int (cell ns (4 + i))), [scr ns, .val (.str (st l)), .val (.int (i : Int)), .no, .no, .no, .no]) :=
      opd_val (cell_call (k := 4 + i) rfl (opd_val (bop_is (d := .int 4) (d' := .int (i : Int)) rfl rfl (by rw [gAdd_int]; congr 3; try omega))))
    have a3 : opd (iBin gAdd (iCon (.int 1)) (iBin gMod (iCall (runDef 2 6 Sh.m_cell) (argC (iVar 0) (argC (iBin gAdd (iCon (.int 4)) (iVar 2)) argN))) (iCon (.int 13)))) [scr ns, .val (.str (st l)), .val (.int (i : Int)), .no, .no, .no, .no] = some (.val (.int (1 + cell ns (4 + i) % 13)), [scr ns, .val (.str (st l)), .val (.int (i : Int)), .no, .no, .no, .no]) :=
      opd_val (bop_is (d := .int 1) (d' := .int (cell ns (4 + i) % 13)) rfl (opd_val (bop_is a2 rfl rfl)) rfl)
    refine asg_val (d := .str (st (l ++ l2))) (e := [scr ns, .val (.str (st l)), .val (.int (i : Int)), .no, .no, .no, .no]) (bop_is (d := .str (st l)) (d' := .str (st l2)) rfl (opd_val (call2 a1 a3 h1)) ?_) rfl ⟨l ++ l2, .val (.int (i : Int)), by rw [List.length_append]; omega, good_app hg h3, free_val, rfl⟩
    rw [gAdd_str, if_pos (by rw [Tk.st_len, Tk.st_len]; omega), Tk.st_app]
  · rintro _ ⟨l, w, hll, hg, _, rfl⟩
    rw [rngD_len] at hll
    exact ⟨l, w, by omega, hg, rfl⟩
  rintro _ ⟨l0, w2, hl0, hg0, rfl⟩
  -- the long word
  refine seq_ret (fun e => ∃ (l : List Nat) (w : Sl), l.length ≤ 1000 ∧ Good l ∧ e = [scr ns, .val (.str (st l)), w2, .no, .no, .no, w]) (if_p (p := cell ns 7 % 4 = 0) (e := [scr ns, .val (.str (st l0)), w2, .no, .no, .no, .no]) (tst_is (bop_is (opd_val (bop_is (r := .val (.int (cell ns 7 % 4))) (opd_val (cell_call rfl rfl)) rfl rfl)) rfl rfl)) (fun _ => ?_) fun _ => nxt_here ⟨l0, .no, by omega, hg0, rfl⟩) ?_
  · obtain ⟨j, hj⟩ : ∃ j : Nat, cell ns 8 % ((l0.length : Int) + 1) = (j : Int) := ⟨_, (Int.toNat_of_nonneg (Int.emod_nonneg _ (by omega))).symm⟩
    obtain ⟨k, hk⟩ : ∃ k : Nat, cell ns 9 % 6 = (k : Int) := ⟨_, (Int.toNat_of_nonneg (Int.emod_nonneg _ (by omega))).symm⟩
    have hk5 : k ≤ 5 := by omega
    obtain ⟨r1, r2⟩ := rep_ok k hk5
    refine seq_nxt (fun e => e = [scr ns, .val (.str (st l0)), w2, .no, .no, .no, .val (.int (j : Int))]) (asg_val (d := .int (j : Int)) (e := [scr ns, .val (.str (st l0)), w2, .no, .no, .no, .no]) (bop_is (d := .int (cell ns 8)) (d' := .int ((l0.length : Int) + 1)) (opd_val (cell_call rfl rfl)) (opd_val (bop_is (d := .int (l0.length : Int)) (d' := .int 1) (opd_val (cb_is rfl (Tk.len_st (by omega)))) rfl rfl)) (by rw [gMod_int, if_pos (by omega), hj])) rfl rfl) ?_
    rintro _ rfl
    have b1 : opd (iSl (iVar 1) iNoP (iPart (iVar 6))) [scr ns, .val (.str (st l0)), w2, .no, .no, .no, .val (.int (j : Int))] = some (.val (.str (st (l0.take j))), [scr ns, .val (.str (st l0)), w2, .no, .no, .no, .val (.int (j : Int))]) := by
      refine opd_val ?_
      show ((gSl (.str (st l0)) none (some (j : Int))).bind fun z => some (z, [scr ns, .val (.str (st l0)), w2, .no, .no, .no, .val (.int (j : Int))])) = _
      rw [cut_to (by omega)]
      rfl
    have b3 : opd (iSl (iVar 1) (iPart (iVar 6)) iNoP) [scr ns, .val (.str (st l0)), w2, .no, .no, .no, .val (.int (j : Int))] = some (.val (.str (st (l0.drop j))), [scr ns, .val (.str (st l0)), w2, .no, .no, .no, .val (.int (j : Int))]) := by
      refine opd_val ?_
      show ((gSl (.str (st l0)) (some (j : Int)) none).bind fun z => some (z, [scr ns, .val (.str (st l0)), w2, .no, .no, .no, .val (.int (j : Int))])) = _
      rw [cut_from (by omega)]
      rfl
    have b2 : opd (iBin gMulS (iCon (.str "k")) (iBin gAdd (iCon (.int 38)) (iBin gMod (iCall (runDef 2 6 Sh.m_cell) (argC (iVar 0) (argC (iCon (.int 9)) argN))) (iCon (.int 6))))) [scr ns, .val (.str (st l0)), w2, .no, .no, .no, .val (.int (j : Int))] = some (.val (.str (repS "k" (38 + k))), [scr ns, .val (.str (st l0)), w2, .no, .no, .no, .val (.int (j : Int))]) := by
      refine opd_val (bop_is (d := .str "k") (d' := .int ((38 + k : Nat) : Int)) rfl (opd_val (bop_is (d := .int 38) (d' := .int (k : Int)) rfl (opd_val (bop_is (d := .int (cell ns 9)) (d' := .int 6) (opd_val (cell_call rfl rfl)) rfl (by rw [gMod_int, if_pos (by omega), hk]))) (by rw [gAdd_int]; congr 3; try omega))) ?_)
      have kl : ("k" : Str).length = 1 := by decide +kernel
      unfold gMulS
      show (if 2 ≤ ((38 + k : Nat) : Int) ∧ ((38 + k : Nat) : Int) ≤ 1000 ∧ 1 ≤ ("k" : Str).length ∧ ("k" : Str).length ≤ 1000 then some (Res.val (.str (repS "k" ((38 + k : Nat) : Int).toNat))) else none) = _
      rw [if_pos ⟨by omega, by omega, by omega, by omega⟩, Int.toNat_natCast]
    rw [st_of (repS "k" (38 + k))] at b2 r2
    rw [Tk.st_len] at r2
    have gk := good_of r1
    refine asg_val (d := .str (st ((l0.take j ++ (repS "k" (38 + k)).cps.toList) ++ l0.drop j))) (e := [scr ns, .val (.str (st l0)), w2, .no, .no, .no, .val (.int (j : Int))]) (bop_is (d := .str (st (l0.take j ++ (repS "k" (38 + k)).cps.toList))) (opd_val (bop_is b1 b2 ?_)) b3 ?_) rfl ⟨_, _, ?_, ?_, rfl⟩
    · rw [gAdd_str, if_pos (by rw [Tk.st_len, Tk.st_len, List.length_take]; omega), Tk.st_app]
    · rw [gAdd_str, if_pos (by rw [Tk.st_len, Tk.st_len, List.length_append, List.length_take, List.length_drop]; omega), Tk.st_app]
    · rw [List.length_append, List.length_append, List.length_take, List.length_drop]
      omega
    · exact good_app (good_app (fun c hc => hg0 c (List.mem_of_mem_take hc)) gk) fun c hc => hg0 c (List.mem_of_mem_drop hc)
  rintro _ ⟨L, w6, hL, hG, rfl⟩
  refine seq_ret (fun e => ∃ n : Int, e = [scr ns, .val (.str (st L)), w2, .val (.int n), .no, .no, w6]) ⟨_, iAsg_val (d := .int (1 + cell ns 10 % (10 ^ 9))) (e := [scr ns, .val (.str (st L)), w2, .no, .no, .no, w6]) (bop_is (d := .int 1) (d' := .int (cell ns 10 % (10 ^ 9))) rfl (opd_val (bop_is (d := .int (cell ns 10)) (d' := .int (10 ^ 9)) (opd_val (cell_call rfl rfl)) rfl (by rw [gMod_int, if_pos (by decide)]))) rfl) rfl, _, rfl⟩ ?_
  rintro _ ⟨n, rfl⟩
  obtain ⟨ts, T⟩ := Tk.tok_ex n L.length 0 L (Nat.le_refl _)
  have data := tok_data T hG
  have ct : F_tokens [.val (.str (st L)), .val (.int n)] = some (.new (.list ts), [.val (.str (st L)), .val (.int n)]) := Tk.tokens_eq (by omega) T
  have cd : F__law_due [.val (.str (st L)), .val (.int n)] = some (.new (.list ts), [.val (.str (st L)), .val (.int n)]) := Tk.due_eq (by omega) (by omega) T
  refine seq_is (e := [scr ns, .val (.str (st L)), w2, .val (.int n), .val (.list ts), .no, w6]) (iAsg_new (call2 rfl rfl ct) rfl) ?_
  refine seq_is (e := [scr ns, .val (.str (st L)), w2, .val (.int n), .val (.list ts), .no, w6]) ((iIfS_false (e := [scr ns, .val (.str (st L)), w2, .val (.int n), .val (.list ts), .no, w6]) ?_).trans rfl) ?_
  · refine (orT_f (e := [scr ns, .val (.str (st L)), w2, .val (.int n), .val (.list ts), .no, w6]) (notT_is (b := true) (tru_is (opd_val (isi_is (b := true) (d := .list ts) rfl isi_list_list)) rfl))).trans ?_
    exact tst_is (bop_is (d := .list ts) (d' := .list ts) rfl (opd_new (call2 rfl rfl cd)) (gNe_toks data))
  refine seq_ret (fun e => ∃ w5, e = [scr ns, .val (.str (st L)), w2, .val (.int n), .val (.list ts), w5, w6]) (for_nxt (ds := ts) (e := [scr ns, .val (.str (st L)), w2, .val (.int n), .val (.list ts), .no, w6]) (fun i e => ∃ w5, Free w5 ∧ e = [scr ns, .val (.str (st L)), w2, .val (.int n), .val (.list ts), w5, w6]) rfl ⟨.no, free_no, rfl⟩ ?_ ?_) ?_
  · rintro i d _ hd ⟨w5, f5, rfl⟩
    obtain ⟨k, w, j, rfl, _, _⟩ := data d (List.mem_of_getElem? hd)
    refine ⟨_, setV_free (w := w5) rfl f5, ?_⟩
    refine ⟨[scr ns, .val (.str (st L)), w2, .val (.int n), .val (.list ts), .val (tk k w n j), w6], (iIfS_false (e := [scr ns, .val (.str (st L)), w2, .val (.int n), .val (.list ts), .val (tk k w n j), w6]) ?_).trans rfl, _, free_val, rfl⟩
    refine (orT_f (e := [scr ns, .val (.str (st L)), w2, .val (.int n), .val (.list ts), .val (tk k w n j), w6]) (notT_is (b := true) (tru_is (opd_val (isi_is (b := true) (d := tk k w n j) rfl isi_tup_tup)) rfl))).trans ?_
    refine (orT_f (e := [scr ns, .val (.str (st L)), w2, .val (.int n), .val (.list ts), .val (tk k w n j), w6]) (notT_is (b := true) (tru_is (opd_val (call1 (d := .int n) rfl (intg n))) rfl))).trans ?_
    exact notT_is (b := true) (tru_is (opd_val (call1 (d := .int j) rfl (intg j))) rfl)
  · rintro _ ⟨w5, _, rfl⟩
    exact ⟨w5, rfl⟩
  rintro _ ⟨w5, rfl⟩
  have t1 : F_tokens [.val (.str (st [])), .val (.int 4)] = some (.new (.list []), [.val (.str (st [])), .val (.int 4)]) := Tk.tokens_eq (L := []) (by simp) (.nil 0)
  have t2 : F_tokens [.val (.str (st [35, 32, 120])), .val (.int 4)] = some (.new (.list []), [.val (.str (st [35, 32, 120])), .val (.int 4)]) := Tk.tokens_eq (L := [35, 32, 120]) (by simp) (.hash 0 [32, 120])
  rw [Tk.s_nil, s_x]
  exact ret_val (d := .bool true) (e := [scr ns, .val (.str (st L)), w2, .val (.int n), .val (.list ts), w5, w6]) ((and_t (e := [scr ns, .val (.str (st L)), w2, .val (.int n), .val (.list ts), w5, w6]) (bop_is (d := .list []) (d' := .list []) (opd_new (call2 rfl rfl t1)) rfl gEq_nil)).trans (bop_is (d := .list []) (d' := .list []) (opd_new (call2 rfl rfl t2)) rfl gEq_nil)) ⟨rfl, rfl⟩
section
variable {P : Program} {w : World} {K : PySem.W.Frag} {mg : Str → Option Value} {base : Heap}
theorem ok_word_at {a : Addr} {fd : FuncData} {k : Nat} (F : Fun K "word_at" "word_at" (top 6) a fd) (Z_len : mg "len" = none) {t_WORD_CHARACTERS : Tok} (C_WORD_CHARACTERS : mg "WORD_CHARACTERS" = some (.str "abcdefghijklmnopqrstuvwxyzABCDEFGHIJKLMNOPQRSTUVWXYZ0123456789_" t_WORD_CHARACTERS)) :
    FnOk P w K mg base CX0 (k + 1) a fd ["line_text", "start"] (spF K 2 (f_word_at )) := by
  have nd := sc_word_at.nd
  exact def_ok F sc_word_at fun cdv A outer s H E hr =>
    (bdCons (stAsg false 2 nd (pdVar 1)) (bdCons (stWhile 1000000 (tdW (wdA (tdC (oLt hr) (nomark _) (pdVar 2) (bLen Z_len (by rfl) (adCons (pdVar 0) adNil))) (wdA1 (tdC oIn (by rfl) (pdIx (pdVar 0) (pdVar 2)) (pdGlob (by rfl) C_WORD_CHARACTERS relS (.str _)))))) (bdOne (stAdd 2 nd pdInt)) PassesOwn.never) (bdOne (stRet (pdSl (pdVar 0) (odS (pdVar 1)) (odS (pdVar 2)))))))
theorem ok_token_at {a : Addr} {fd : FuncData} {k : Nat} (F : Fun K "token_at" "token_at" (top 5) a fd) {A_word_at : Addr} {D_word_at : FuncData} {g_word_at : Fn} (G_word_at : FnOk P w K mg base CX0 k A_word_at D_word_at ["line_text", "start"] (spF K 2 g_word_at)) (M_word_at : mg "word_at" = some (.ref A_word_at)) (P_word_at : PySem.W.keepIn K (.ref A_word_at) = true) (B_word_at : Binds K D_word_at ["line_text", "start"] []) (Z_len : mg "len" = none) {t_SIGNS : Tok} (C_SIGNS : mg "SIGNS" = some (.str "(),.:=" t_SIGNS)) {t_LONGEST_WORD : Tok} (C_LONGEST_WORD : mg "LONGEST_WORD" = some (.int 40 t_LONGEST_WORD)) :
    FnOk P w K mg base CX0 (k + 1) a fd ["line_text", "start"] (spF K 2 (f_token_at g_word_at)) := by
  have nd := sc_token_at.nd
  exact def_ok F sc_token_at fun cdv A outer s H E hr =>
    (bdCons (stAsg false 2 nd (pdCall G_word_at hr (by rfl) M_word_at P_word_at B_word_at (adCons (pdVar 0) (adCons (pdVar 1) adNil)) (argLenS (argLenS argLen0)))) (bdCons (stIf (tdTru (pdVar 2)) (bdOne (stRet (pdTup (adCons (pdIfE (tdC oGt (nomark _) (bLen Z_len (by rfl) (adCons (pdVar 2) adNil)) (pdGlob (by rfl) C_LONGEST_WORD relI (.int _))) pdStr pdStr) (adCons (pdVar 2) adNil))))) bdNil) (bdCons (stIf (tdC (oEq hr) (nomark _) (pdSl (pdVar 0) (odS (pdVar 1)) (odS (pdAdd (pdVar 1) pdInt))) pdStr) (bdOne (stRet (pdTup (adCons pdStr (adCons pdStr adNil))))) bdNil) (bdCons (stAsg false 3 nd (pdIx (pdVar 0) (pdVar 1))) (bdOne (stRet (pdTup (adCons (pdIfE (tdC oIn (by rfl) (pdVar 3) (pdGlob (by rfl) C_SIGNS relS (.str _))) pdStr pdStr) (adCons (pdVar 3) adNil)))))))))
theorem ok_tokens {a : Addr} {fd : FuncData} {k : Nat} (F : Fun K "tokens" "tokens" (top 4) a fd) {A_token_at : Addr} {D_token_at : FuncData} {g_token_at : Fn} (G_token_at : FnOk P w K mg base CX0 k A_token_at D_token_at ["line_text", "start"] (spF K 2 g_token_at)) (M_token_at : mg "token_at" = some (.ref A_token_at)) (P_token_at : PySem.W.keepIn K (.ref A_token_at) = true) (B_token_at : Binds K D_token_at ["line_text", "start"] []) (Z_len : mg "len" = none) :
    FnOk P w K mg base CX0 (k + 1) a fd ["line_text", "line"] (spF K 2 (f_tokens g_token_at)) := by
  have nd := sc_tokens.nd
  exact def_ok F sc_tokens fun cdv A outer s H E hr =>
    (bdCons (stAsg true 2 nd (pdLst adNil)) (bdCons (stAsg false 3 nd pdInt) (bdCons (stWhile 1000000 (tdW (wdA (tdC (oLt hr) (nomark _) (pdVar 3) (bLen Z_len (by rfl) (adCons (pdVar 0) adNil))) (wdA1 (tdC (oNe hr) (nomark _) (pdIx (pdVar 0) (pdVar 3)) pdStr)))) (bdOne (stIf (tdC oIn (by rfl) (pdIx (pdVar 0) (pdVar 3)) pdStr) (bdOne (stAdd 3 nd pdInt)) (bdCons (stAsgT (gdTup rfl (gsCons (gdName 4 nd) (gsCons (gdName 5 nd) gsNil))) (pdCall G_token_at hr (by rfl) M_token_at P_token_at B_token_at (adCons (pdVar 0) (adCons (pdVar 3) adNil)) (argLenS (argLenS argLen0)))) (bdCons (stApp 2 (pdTup (adCons (pdVar 4) (adCons (pdVar 5) (adCons (pdVar 1) (adCons (pdAdd (pdVar 3) pdInt) adNil)))))) (bdOne (stAdd 3 nd (bLen Z_len (by rfl) (adCons (pdVar 5) adNil)))))))) PassesOwn.never) (bdOne (stRet (pdVar 2))))))
theorem ok__law_cell {a : Addr} {fd : FuncData} {k : Nat} (F : Fun K "_law_cell" "_law_cell" (top 8) a fd) (Z_int : mg "int" = none) (Z_len : mg "len" = none) :
    FnOk P w K mg base CX0 (k + 1) a fd ["script", "k"] (spF K 2 (f__law_cell )) := by
  have nd := sc__law_cell.nd
  exact def_ok F sc__law_cell fun cdv A outer s H E hr =>
    (bdCons (stAsg false 2 nd (pdAdd (pdMulL pdInt (pdVar 1)) pdInt)) (bdCons (stIf (tdC (oLt hr) (nomark _) (pdVar 1) (bLen Z_len (by rfl) (adCons (pdVar 0) adNil))) (bdOne (stAsg false 2 nd (pdIx (pdVar 0) (pdVar 1)))) bdNil) (bdCons (stIf (tdC (oLt hr) (nomark _) (pdVar 2) pdInt) (bdOne (stAsg false 2 nd (pdSub pdInt (pdMulL pdInt (pdVar 2))))) bdNil) (bdCons (stIf (tdC (oLt hr) (nomark _) (pdVar 2) pdInt) (bdCons (stAsg false 3 nd (pdMod (bInt Z_int (by rfl) (adCons (pdAdd (pdAdd (pdMulR (pdVar 2) pdInt) (pdMulR (pdVar 1) pdInt)) pdInt) adNil)) pdInt)) (bdCons (stAsg false 4 nd (pdMod (bInt Z_int (by rfl) (adCons (pdAdd (pdAdd (pdMulR (pdVar 3) pdInt) (pdMulR (pdVar 1) pdInt)) pdInt) adNil)) pdInt)) (bdCons (stAsg false 5 nd (pdMod (bInt Z_int (by rfl) (adCons (pdAdd (pdAdd (pdMulR (pdVar 4) pdInt) (pdVar 3)) pdInt) adNil)) pdInt)) (bdOne (stAsg false 2 nd (pdAdd (pdMulR (pdAdd (pdMulR (pdVar 5) pdInt) (pdVar 4)) pdInt) (pdVar 3))))))) bdNil) (bdOne (stRet (pdVar 2)))))))
theorem ok__law_is_integer {a : Addr} {fd : FuncData} {k : Nat} (F : Fun K "_law_is_integer" "_law_is_integer" (top 9) a fd) (Z_isinstance : mg "isinstance" = none) (Z_int : mg "int" = none) (Z_bool : mg "bool" = none) :
    FnOk P w K mg base CX0 (k + 1) a fd ["actual"] (spF K 1 (f__law_is_integer )) := by
  have nd := sc__law_is_integer.nd
  exact def_ok F sc__law_is_integer fun cdv A outer s H E hr =>
    (bdOne (stRet (pdAnd (bIsi (n := "int") Z_isinstance (by rfl) (by rfl) Z_int boot_int (pdVar 0)) (pdOne (pdNot (bIsi (n := "bool") Z_isinstance (by rfl) (by rfl) Z_bool boot_bool (pdVar 0)))))))
theorem ok__law_drawn {a : Addr} {fd : FuncData} {k : Nat} (F : Fun K "_law_drawn" "_law_drawn" (top 10) a fd) (Z_range : mg "range" = none) (Z_int : mg "int" = none) :
    FnOk P w K mg base CX0 (k + 1) a fd ["row", "many"] (spF K 2 (f__law_drawn )) := by
  have nd := sc__law_drawn.nd
  exact def_ok F sc__law_drawn fun cdv A outer s H E hr =>
    (bdCons (stAsg false 2 nd pdStr) (bdCons (stAsg false 3 nd pdStr) (bdCons (stFor rfl (idR1 (by rfl) Z_range (adCons (pdVar 1) adNil)) (gdName 4 nd) (bdCons (stAsg false 3 nd (pdAdd (pdVar 3) (pdIx (pdVar 2) (pdMod (bInt Z_int (by rfl) (adCons (pdVar 0) adNil)) pdInt)))) (bdOne (stAsg false 0 nd (pdDiv (pdVar 0) pdInt)))) PassesOwn.never) (bdOne (stRet (pdVar 3))))))
theorem ok__law_is_word {a : Addr} {fd : FuncData} {k : Nat} (F : Fun K "_law_is_word" "_law_is_word" (top 11) a fd)  :
    FnOk P w K mg base CX0 (k + 1) a fd ["sign"] (spF K 1 (f__law_is_word )) := by
  have nd := sc__law_is_word.nd
  exact def_ok F sc__law_is_word fun cdv A outer s H E hr =>
    (bdOne (stRet (pdAnd (pdC (oNe hr) (nomark _) (pdVar 0) pdStr) (pdOne (pdC oIn (by rfl) (pdVar 0) pdStr)))))
theorem ok__law_due {a : Addr} {fd : FuncData} {k : Nat} (F : Fun K "_law_due" "_law_due" (top 12) a fd) {A__law_is_word : Addr} {D__law_is_word : FuncData} {g__law_is_word : Fn} (G__law_is_word : FnOk P w K mg base CX0 k A__law_is_word D__law_is_word ["sign"] (spF K 1 g__law_is_word)) (M__law_is_word : mg "_law_is_word" = some (.ref A__law_is_word)) (P__law_is_word : PySem.W.keepIn K (.ref A__law_is_word) = true) (B__law_is_word : Binds K D__law_is_word ["sign"] []) (Z_range : mg "range" = none) (Z_len : mg "len" = none) :
    FnOk P w K mg base CX0 (k + 1) a fd ["line", "number"] (spF K 2 (f__law_due g__law_is_word)) := by
  have nd := sc__law_due.nd
  exact def_ok F sc__law_due fun cdv A outer s H E hr =>
    (bdCons (stAsg true 2 nd (pdLst adNil)) (bdCons (stAsg false 3 nd pdInt) (bdCons (stFor rfl (idR1 (by rfl) Z_range (adCons (bLen Z_len (by rfl) (adCons (pdVar 0) adNil)) adNil)) (gdName 4 nd) (bdCons (stAsg false 5 nd (pdIx (pdVar 0) (pdVar 4))) (bdCons (stIf (tdC (oEq hr) (nomark _) (pdVar 5) pdStr) (bdOne (stRet (pdVar 2))) bdNil) (bdOne (stIf (tdTru (pdCall G__law_is_word hr (by rfl) M__law_is_word P__law_is_word B__law_is_word (adCons (pdVar 5) adNil) (argLenS argLen0))) (bdCons (stIf (tdW (wdO (tdC (oEq hr) (nomark _) (pdVar 4) pdInt) (wdO1 (tdNot (tdTru (pdCall G__law_is_word hr (by rfl) M__law_is_word P__law_is_word B__law_is_word (adCons (pdIx (pdVar 0) (pdSub (pdVar 4) pdInt)) adNil) (argLenS argLen0))))))) (bdOne (stAsg false 3 nd (pdVar 4))) bdNil) (bdOne (stIf (tdNot (tdTru (pdCall G__law_is_word hr (by rfl) M__law_is_word P__law_is_word B__law_is_word (adCons (pdSl (pdVar 0) (odS (pdAdd (pdVar 4) pdInt)) (odS (pdAdd (pdVar 4) pdInt))) adNil) (argLenS argLen0)))) (bdCons (stAsg false 6 nd (pdIfE (tdC oLe (nomark _) (pdSub (pdAdd (pdVar 4) pdInt) (pdVar 3)) pdInt) pdStr pdStr)) (bdOne (stApp 2 (pdTup (adCons (pdVar 6) (adCons (pdSl (pdVar 0) (odS (pdVar 3)) (odS (pdAdd (pdVar 4) pdInt))) (adCons (pdVar 1) (adCons (pdAdd (pdVar 3) pdInt) adNil)))))))) bdNil))) (bdOne (stIf (tdW (wdA (tdC (oEq hr) (nomark _) (pdVar 5) pdStr) (wdA (tdC oGt (nomark _) (pdVar 4) pdInt) (wdA1 (tdC (oEq hr) (nomark _) (pdIx (pdVar 0) (pdSub (pdVar 4) pdInt)) pdStr))))) (bdOne (stStL 2 (pdTup (adCons pdStr (adCons pdStr (adCons (pdVar 1) (adCons (pdVar 4) adNil))))) (pdNeg pdInt))) (bdOne (stIf (tdC oIn (by rfl) (pdVar 5) pdStr) (bdOne (stApp 2 (pdTup (adCons pdStr (adCons (pdVar 5) (adCons (pdVar 1) (adCons (pdAdd (pdVar 4) pdInt) adNil))))))) (bdOne (stIf (tdW (wdA (tdC (oNe hr) (nomark _) (pdVar 5) pdStr) (wdA1 (tdC (oNe hr) (nomark _) (pdVar 5) pdStr)))) (bdOne (stApp 2 (pdTup (adCons pdStr (adCons (pdVar 5) (adCons (pdVar 1) (adCons (pdAdd (pdVar 4) pdInt) adNil))))))) bdNil)))))))))) PassesOwn.never) (bdOne (stRet (pdVar 2))))))
theorem ok_law {a : Addr} {fd : FuncData} {k : Nat} (F : Fun K "law" "law" (top 13) a fd) {A_tokens : Addr} {D_tokens : FuncData} {g_tokens : Fn} (G_tokens : FnOk P w K mg base CX0 k A_tokens D_tokens ["line_text", "line"] (spF K 2 g_tokens)) (M_tokens : mg "tokens" = some (.ref A_tokens)) (P_tokens : PySem.W.keepIn K (.ref A_tokens) = true) (B_tokens : Binds K D_tokens ["line_text", "line"] []) {A__law_is_integer : Addr} {D__law_is_integer : FuncData} {g__law_is_integer : Fn} (G__law_is_integer : FnOk P w K mg base CX0 k A__law_is_integer D__law_is_integer ["actual"] (spF K 1 g__law_is_integer)) (M__law_is_integer : mg "_law_is_integer" = some (.ref A__law_is_integer)) (P__law_is_integer : PySem.W.keepIn K (.ref A__law_is_integer) = true) (B__law_is_integer : Binds K D__law_is_integer ["actual"] []) {A__law_due : Addr} {D__law_due : FuncData} {g__law_due : Fn} (G__law_due : FnOk P w K mg base CX0 k A__law_due D__law_due ["line", "number"] (spF K 2 g__law_due)) (M__law_due : mg "_law_due" = some (.ref A__law_due)) (P__law_due : PySem.W.keepIn K (.ref A__law_due) = true) (B__law_due : Binds K D__law_due ["line", "number"] []) {A__law_cell : Addr} {D__law_cell : FuncData} {g__law_cell : Fn} (G__law_cell : FnOk P w K mg base CX0 k A__law_cell D__law_cell ["script", "k"] (spF K 2 g__law_cell)) (M__law_cell : mg "_law_cell" = some (.ref A__law_cell)) (P__law_cell : PySem.W.keepIn K (.ref A__law_cell) = true) (B__law_cell : Binds K D__law_cell ["script", "k"] []) {A__law_drawn : Addr} {D__law_drawn : FuncData} {g__law_drawn : Fn} (G__law_drawn : FnOk P w K mg base CX0 k A__law_drawn D__law_drawn ["row", "many"] (spF K 2 g__law_drawn)) (M__law_drawn : mg "_law_drawn" = some (.ref A__law_drawn)) (P__law_drawn : PySem.W.keepIn K (.ref A__law_drawn) = true) (B__law_drawn : Binds K D__law_drawn ["row", "many"] []) (Z_isinstance : mg "isinstance" = none) (Z_tuple : mg "tuple" = none) (Z_list : mg "list" = none) (Z_len : mg "len" = none) (Z_range : mg "range" = none) :
    FnOk P w K mg base CX0 (k + 1) a fd ["script"] (spF K 1 (f_law g_tokens g__law_is_integer g__law_due g__law_cell g__law_drawn)) := by
  have nd := sc_law.nd
  exact def_ok F sc_law fun cdv A outer s H E hr =>
    (bdCons (stAsg false 1 nd pdStr) (bdCons (stFor rfl (idR1 (by rfl) Z_range (adCons (pdAdd pdInt (pdMod (pdCall G__law_cell hr (by rfl) M__law_cell P__law_cell B__law_cell (adCons (pdVar 0) (adCons pdInt adNil)) (argLenS (argLenS argLen0))) pdInt)) adNil)) (gdName 2 nd) (bdOne (stAsg false 1 nd (pdAdd (pdVar 1) (pdCall G__law_drawn hr (by rfl) M__law_drawn P__law_drawn B__law_drawn (adCons (pdCall G__law_cell hr (by rfl) M__law_cell P__law_cell B__law_cell (adCons (pdVar 0) (adCons (pdAdd pdInt (pdVar 2)) adNil)) (argLenS (argLenS argLen0))) (adCons (pdAdd pdInt (pdMod (pdCall G__law_cell hr (by rfl) M__law_cell P__law_cell B__law_cell (adCons (pdVar 0) (adCons (pdAdd pdInt (pdVar 2)) adNil)) (argLenS (argLenS argLen0))) pdInt)) adNil)) (argLenS (argLenS argLen0)))))) PassesOwn.never) (bdCons (stIf (tdC (oEq hr) (nomark _) (pdMod (pdCall G__law_cell hr (by rfl) M__law_cell P__law_cell B__law_cell (adCons (pdVar 0) (adCons pdInt adNil)) (argLenS (argLenS argLen0))) pdInt) pdInt) (bdCons (stAsg false 6 nd (pdMod (pdCall G__law_cell hr (by rfl) M__law_cell P__law_cell B__law_cell (adCons (pdVar 0) (adCons pdInt adNil)) (argLenS (argLenS argLen0))) (pdAdd (bLen Z_len (by rfl) (adCons (pdVar 1) adNil)) pdInt))) (bdOne (stAsg false 1 nd (pdAdd (pdAdd (pdSl (pdVar 1) odN (odS (pdVar 6))) (pdMulS pdStr (pdAdd pdInt (pdMod (pdCall G__law_cell hr (by rfl) M__law_cell P__law_cell B__law_cell (adCons (pdVar 0) (adCons pdInt adNil)) (argLenS (argLenS argLen0))) pdInt)))) (pdSl (pdVar 1) (odS (pdVar 6)) odN))))) bdNil) (bdCons (stAsg false 3 nd (pdAdd pdInt (pdMod (pdCall G__law_cell hr (by rfl) M__law_cell P__law_cell B__law_cell (adCons (pdVar 0) (adCons pdInt adNil)) (argLenS (argLenS argLen0))) (pdPow pdInt pdInt)))) (bdCons (stAsg false 4 nd (pdCall G_tokens hr (by rfl) M_tokens P_tokens B_tokens (adCons (pdVar 1) (adCons (pdVar 3) adNil)) (argLenS (argLenS argLen0)))) (bdCons (stIf (tdW (wdO (tdNot (tdTru (bIsi (n := "list") Z_isinstance (by rfl) (by rfl) Z_list boot_list (pdVar 4)))) (wdO1 (tdC (oNe hr) (nomark _) (pdVar 4) (pdCall G__law_due hr (by rfl) M__law_due P__law_due B__law_due (adCons (pdVar 1) (adCons (pdVar 3) adNil)) (argLenS (argLenS argLen0))))))) (bdOne (stRet pdBool)) bdNil) (bdCons (stFor rfl (idSeq (pdVar 4)) (gdName 5 nd) (bdOne (stIf (tdW (wdO (tdNot (tdTru (bIsi (n := "tuple") Z_isinstance (by rfl) (by rfl) Z_tuple boot_tuple (pdVar 5)))) (wdO (tdNot (tdTru (pdCall G__law_is_integer hr (by rfl) M__law_is_integer P__law_is_integer B__law_is_integer (adCons (pdIx (pdVar 5) pdInt) adNil) (argLenS argLen0)))) (wdO1 (tdNot (tdTru (pdCall G__law_is_integer hr (by rfl) M__law_is_integer P__law_is_integer B__law_is_integer (adCons (pdIx (pdVar 5) pdInt) adNil) (argLenS argLen0)))))))) (bdOne (stRet pdBool)) bdNil)) PassesOwn.never) (bdOne (stRet (pdAnd (pdC (oEq hr) (nomark _) (pdCall G_tokens hr (by rfl) M_tokens P_tokens B_tokens (adCons pdStr (adCons pdInt adNil)) (argLenS (argLenS argLen0))) (pdLst adNil)) (pdOne (pdC (oEq hr) (nomark _) (pdCall G_tokens hr (by rfl) M_tokens P_tokens B_tokens (adCons pdStr (adCons pdInt adNil)) (argLenS (argLenS argLen0))) (pdLst adNil)))))))))))))
end
theorem all_mk {l : PySem.W.OpenLaw} {w : World} {K : PySem.W.Frag} {h : Heap} {mg : Str → Option Value} {fa : Addr} (X : K.In h) (G : h.Ns mainGlobals mg) (hfa : mg "law" = some (.ref fa))
    {a_word_at : Addr} {od_word_at an_word_at : Option Addr} {sl_word_at : Array (Option Value)} {oc_word_at kV_word_at dc_word_at pm_word_at cd_word_at ct_word_at : Value}
    {a_token_at : Addr} {od_token_at an_token_at : Option Addr} {sl_token_at : Array (Option Value)} {oc_token_at kV_token_at dc_token_at pm_token_at cd_token_at ct_token_at : Value}
    {a_tokens : Addr} {od_tokens an_tokens : Option Addr} {sl_tokens : Array (Option Value)} {oc_tokens kV_tokens dc_tokens pm_tokens cd_tokens ct_tokens : Value}
    {a__law_cell : Addr} {od__law_cell an__law_cell : Option Addr} {sl__law_cell : Array (Option Value)} {oc__law_cell kV__law_cell dc__law_cell pm__law_cell cd__law_cell ct__law_cell : Value}
    {a__law_is_integer : Addr} {od__law_is_integer an__law_is_integer : Option Addr} {sl__law_is_integer : Array (Option Value)} {oc__law_is_integer kV__law_is_integer dc__law_is_integer pm__law_is_integer cd__law_is_integer ct__law_is_integer : Value}
    {a__law_drawn : Addr} {od__law_drawn an__law_drawn : Option Addr} {sl__law_drawn : Array (Option Value)} {oc__law_drawn kV__law_drawn dc__law_drawn pm__law_drawn cd__law_drawn ct__law_drawn : Value}
    {a__law_is_word : Addr} {od__law_is_word an__law_is_word : Option Addr} {sl__law_is_word : Array (Option Value)} {oc__law_is_word kV__law_is_word dc__law_is_word pm__law_is_word cd__law_is_word ct__law_is_word : Value}
    {a__law_due : Addr} {od__law_due an__law_due : Option Addr} {sl__law_due : Array (Option Value)} {oc__law_due kV__law_due dc__law_due pm__law_due cd__law_due ct__law_due : Value}
    {a_law : Addr} {od_law an_law : Option Addr} {sl_law : Array (Option Value)} {oc_law kV_law dc_law pm_law cd_law ct_law : Value}
    {t_WORD_CHARACTERS : Tok}
    {t_SIGNS : Tok}
    {t_LONGEST_WORD : Tok}
    (q1_word_at : PySem.W.nsIn K mainGlobals "word_at" = some (some (.ref a_word_at))) (q2_word_at : K.lookup a_word_at = some ⟨oc_word_at, od_word_at, .func (PySem.W.fnOf "word_at" "word_at" (defArgs (top 6)) (defBody (top 6)) (defScope (top 6)) .none kV_word_at dc_word_at pm_word_at an_word_at cd_word_at ct_word_at), sl_word_at⟩) (q3_word_at : PySem.W.codeIn K cd_word_at "word_at" = true) (q4_word_at : PySem.W.keepIn K (.ref a_word_at) = true)
    (q1_token_at : PySem.W.nsIn K mainGlobals "token_at" = some (some (.ref a_token_at))) (q2_token_at : K.lookup a_token_at = some ⟨oc_token_at, od_token_at, .func (PySem.W.fnOf "token_at" "token_at" (defArgs (top 5)) (defBody (top 5)) (defScope (top 5)) .none kV_token_at dc_token_at pm_token_at an_token_at cd_token_at ct_token_at), sl_token_at⟩) (q3_token_at : PySem.W.codeIn K cd_token_at "token_at" = true) (q4_token_at : PySem.W.keepIn K (.ref a_token_at) = true)
    (q1_tokens : PySem.W.nsIn K mainGlobals "tokens" = some (some (.ref a_tokens))) (q2_tokens : K.lookup a_tokens = some ⟨oc_tokens, od_tokens, .func (PySem.W.fnOf "tokens" "tokens" (defArgs (top 4)) (defBody (top 4)) (defScope (top 4)) .none kV_tokens dc_tokens pm_tokens an_tokens cd_tokens ct_tokens), sl_tokens⟩) (q3_tokens : PySem.W.codeIn K cd_tokens "tokens" = true) (q4_tokens : PySem.W.keepIn K (.ref a_tokens) = true)
    (q1__law_cell : PySem.W.nsIn K mainGlobals "_law_cell" = some (some (.ref a__law_cell))) (q2__law_cell : K.lookup a__law_cell = some ⟨oc__law_cell, od__law_cell, .func (PySem.W.fnOf "_law_cell" "_law_cell" (defArgs (top 8)) (defBody (top 8)) (defScope (top 8)) .none kV__law_cell dc__law_cell pm__law_cell an__law_cell cd__law_cell ct__law_cell), sl__law_cell⟩) (q3__law_cell : PySem.W.codeIn K cd__law_cell "_law_cell" = true) (q4__law_cell : PySem.W.keepIn K (.ref a__law_cell) = true)
    (q1__law_is_integer : PySem.W.nsIn K mainGlobals "_law_is_integer" = some (some (.ref a__law_is_integer))) (q2__law_is_integer : K.lookup a__law_is_integer = some ⟨oc__law_is_integer, od__law_is_integer, .func (PySem.W.fnOf "_law_is_integer" "_law_is_integer" (defArgs (top 9)) (defBody (top 9)) (defScope (top 9)) .none kV__law_is_integer dc__law_is_integer pm__law_is_integer an__law_is_integer cd__law_is_integer ct__law_is_integer), sl__law_is_integer⟩) (q3__law_is_integer : PySem.W.codeIn K cd__law_is_integer "_law_is_integer" = true) (q4__law_is_integer : PySem.W.keepIn K (.ref a__law_is_integer) = true)
    (q1__law_drawn : PySem.W.nsIn K mainGlobals "_law_drawn" = some (some (.ref a__law_drawn))) (q2__law_drawn : K.lookup a__law_drawn = some ⟨oc__law_drawn, od__law_drawn, .func (PySem.W.fnOf "_law_drawn" "_law_drawn" (defArgs (top 10)) (defBody (top 10)) (defScope (top 10)) .none kV__law_drawn dc__law_drawn pm__law_drawn an__law_drawn cd__law_drawn ct__law_drawn), sl__law_drawn⟩) (q3__law_drawn : PySem.W.codeIn K cd__law_drawn "_law_drawn" = true) (q4__law_drawn : PySem.W.keepIn K (.ref a__law_drawn) = true)
    (q1__law_is_word : PySem.W.nsIn K mainGlobals "_law_is_word" = some (some (.ref a__law_is_word))) (q2__law_is_word : K.lookup a__law_is_word = some ⟨oc__law_is_word, od__law_is_word, .func (PySem.W.fnOf "_law_is_word" "_law_is_word" (defArgs (top 11)) (defBody (top 11)) (defScope (top 11)) .none kV__law_is_word dc__law_is_word pm__law_is_word an__law_is_word cd__law_is_word ct__law_is_word), sl__law_is_word⟩) (q3__law_is_word : PySem.W.codeIn K cd__law_is_word "_law_is_word" = true) (q4__law_is_word : PySem.W.keepIn K (.ref a__law_is_word) = true)
    (q1__law_due : PySem.W.nsIn K mainGlobals "_law_due" = some (some (.ref a__law_due))) (q2__law_due : K.lookup a__law_due = some ⟨oc__law_due, od__law_due, .func (PySem.W.fnOf "_law_due" "_law_due" (defArgs (top 12)) (defBody (top 12)) (defScope (top 12)) .none kV__law_due dc__law_due pm__law_due an__law_due cd__law_due ct__law_due), sl__law_due⟩) (q3__law_due : PySem.W.codeIn K cd__law_due "_law_due" = true) (q4__law_due : PySem.W.keepIn K (.ref a__law_due) = true)
    (q1_law : PySem.W.nsIn K mainGlobals "law" = some (some (.ref a_law))) (q2_law : K.lookup a_law = some ⟨oc_law, od_law, .func (PySem.W.fnOf "law" "law" (defArgs (top 13)) (defBody (top 13)) (defScope (top 13)) .none kV_law dc_law pm_law an_law cd_law ct_law), sl_law⟩) (q3_law : PySem.W.codeIn K cd_law "law" = true) (q4_law : PySem.W.keepIn K (.ref a_law) = true)
    (z_len : PySem.W.nsIn K mainGlobals "len" = some none)
    (z_int : PySem.W.nsIn K mainGlobals "int" = some none)
    (z_isinstance : PySem.W.nsIn K mainGlobals "isinstance" = some none)
    (z_bool : PySem.W.nsIn K mainGlobals "bool" = some none)
    (z_range : PySem.W.nsIn K mainGlobals "range" = some none)
    (z_tuple : PySem.W.nsIn K mainGlobals "tuple" = some none)
    (z_list : PySem.W.nsIn K mainGlobals "list" = some none)
    (c_WORD_CHARACTERS : PySem.W.nsIn K mainGlobals "WORD_CHARACTERS" = some (some (.str "abcdefghijklmnopqrstuvwxyzABCDEFGHIJKLMNOPQRSTUVWXYZ0123456789_" t_WORD_CHARACTERS)))
    (c_SIGNS : PySem.W.nsIn K mainGlobals "SIGNS" = some (some (.str "(),.:=" t_SIGNS)))
    (c_LONGEST_WORD : PySem.W.nsIn K mainGlobals "LONGEST_WORD" = some (some (.int 40 t_LONGEST_WORD))) :
    ∃ fd : FuncData, (∀ (s : Shared) (v : Value), BindsTo s fd ⟨[v], []⟩ [("script", v)]) ∧ ∀ base : Heap, K.In base → base.Ns mainGlobals mg → FnOk l.prog w K mg base CX0 4 fa fd ["script"] (spF K 1 F_law) := by
  have e := hfa.symm.trans (PySem.W.mg_of X G q1_law)
  cases e
  have FF_word_at := fun_mk (st := top 6) q2_word_at q3_word_at q4_word_at
  have B_word_at := FF_word_at.binds (ps := ["line_text", "start"]) fun _ _ _ _ _ _ us hl => match us, hl with | [_, _], _ => rfl
  have M_word_at := PySem.W.mg_of X G q1_word_at
  have FF_token_at := fun_mk (st := top 5) q2_token_at q3_token_at q4_token_at
  have B_token_at := FF_token_at.binds (ps := ["line_text", "start"]) fun _ _ _ _ _ _ us hl => match us, hl with | [_, _], _ => rfl
  have M_token_at := PySem.W.mg_of X G q1_token_at
  have FF_tokens := fun_mk (st := top 4) q2_tokens q3_tokens q4_tokens
  have B_tokens := FF_tokens.binds (ps := ["line_text", "line"]) fun _ _ _ _ _ _ us hl => match us, hl with | [_, _], _ => rfl
  have M_tokens := PySem.W.mg_of X G q1_tokens
  have FF__law_cell := fun_mk (st := top 8) q2__law_cell q3__law_cell q4__law_cell
  have B__law_cell := FF__law_cell.binds (ps := ["script", "k"]) fun _ _ _ _ _ _ us hl => match us, hl with | [_, _], _ => rfl
  have M__law_cell := PySem.W.mg_of X G q1__law_cell
  have FF__law_is_integer := fun_mk (st := top 9) q2__law_is_integer q3__law_is_integer q4__law_is_integer
  have B__law_is_integer := FF__law_is_integer.binds (ps := ["actual"]) fun _ _ _ _ _ _ us hl => match us, hl with | [_], _ => rfl
  have M__law_is_integer := PySem.W.mg_of X G q1__law_is_integer
  have FF__law_drawn := fun_mk (st := top 10) q2__law_drawn q3__law_drawn q4__law_drawn
  have B__law_drawn := FF__law_drawn.binds (ps := ["row", "many"]) fun _ _ _ _ _ _ us hl => match us, hl with | [_, _], _ => rfl
  have M__law_drawn := PySem.W.mg_of X G q1__law_drawn
  have FF__law_is_word := fun_mk (st := top 11) q2__law_is_word q3__law_is_word q4__law_is_word
  have B__law_is_word := FF__law_is_word.binds (ps := ["sign"]) fun _ _ _ _ _ _ us hl => match us, hl with | [_], _ => rfl
  have M__law_is_word := PySem.W.mg_of X G q1__law_is_word
  have FF__law_due := fun_mk (st := top 12) q2__law_due q3__law_due q4__law_due
  have B__law_due := FF__law_due.binds (ps := ["line", "number"]) fun _ _ _ _ _ _ us hl => match us, hl with | [_, _], _ => rfl
  have M__law_due := PySem.W.mg_of X G q1__law_due
  have FF_law := fun_mk (st := top 13) q2_law q3_law q4_law
  have Z_len := PySem.W.mg_none_of X G z_len
  have Z_int := PySem.W.mg_none_of X G z_int
  have Z_isinstance := PySem.W.mg_none_of X G z_isinstance
  have Z_bool := PySem.W.mg_none_of X G z_bool
  have Z_range := PySem.W.mg_none_of X G z_range
  have Z_tuple := PySem.W.mg_none_of X G z_tuple
  have Z_list := PySem.W.mg_none_of X G z_list
  have C_WORD_CHARACTERS := PySem.W.mg_of X G c_WORD_CHARACTERS
  have C_SIGNS := PySem.W.mg_of X G c_SIGNS
  have C_LONGEST_WORD := PySem.W.mg_of X G c_LONGEST_WORD
  refine ⟨PySem.W.fnOf "law" "law" (defArgs (top 13)) (defBody (top 13)) (defScope (top 13)) .none kV_law dc_law pm_law an_law cd_law ct_law, fun s v => .of_eq rfl, fun base _ _ => ?_⟩
  have G_word_at : FnOk l.prog w K mg base CX0 1 _ _ ["line_text", "start"] (spF K 2 F_word_at) := ok_word_at (k := 0) FF_word_at  Z_len C_WORD_CHARACTERS
  have G_token_at : FnOk l.prog w K mg base CX0 2 _ _ ["line_text", "start"] (spF K 2 F_token_at) := ok_token_at (k := 1) FF_token_at (G_word_at.mono (by decide)) M_word_at q4_word_at B_word_at Z_len C_SIGNS C_LONGEST_WORD
  have G_tokens : FnOk l.prog w K mg base CX0 3 _ _ ["line_text", "line"] (spF K 2 F_tokens) := ok_tokens (k := 2) FF_tokens (G_token_at.mono (by decide)) M_token_at q4_token_at B_token_at Z_len
  have G__law_cell : FnOk l.prog w K mg base CX0 1 _ _ ["script", "k"] (spF K 2 F__law_cell) := ok__law_cell (k := 0) FF__law_cell  Z_int Z_len
  have G__law_is_integer : FnOk l.prog w K mg base CX0 1 _ _ ["actual"] (spF K 1 F__law_is_integer) := ok__law_is_integer (k := 0) FF__law_is_integer  Z_isinstance Z_int Z_bool
  have G__law_drawn : FnOk l.prog w K mg base CX0 1 _ _ ["row", "many"] (spF K 2 F__law_drawn) := ok__law_drawn (k := 0) FF__law_drawn  Z_range Z_int
  have G__law_is_word : FnOk l.prog w K mg base CX0 1 _ _ ["sign"] (spF K 1 F__law_is_word) := ok__law_is_word (k := 0) FF__law_is_word  
  have G__law_due : FnOk l.prog w K mg base CX0 2 _ _ ["line", "number"] (spF K 2 F__law_due) := ok__law_due (k := 1) FF__law_due (G__law_is_word.mono (by decide)) M__law_is_word q4__law_is_word B__law_is_word Z_range Z_len
  have G_law : FnOk l.prog w K mg base CX0 4 _ _ ["script"] (spF K 1 F_law) := ok_law (k := 3) FF_law (G_tokens.mono (by decide)) M_tokens q4_tokens B_tokens (G__law_is_integer.mono (by decide)) M__law_is_integer q4__law_is_integer B__law_is_integer (G__law_due.mono (by decide)) M__law_due q4__law_due B__law_due (G__law_cell.mono (by decide)) M__law_cell q4__law_cell B__law_cell (G__law_drawn.mono (by decide)) M__law_drawn q4__law_drawn B__law_drawn Z_isinstance Z_tuple Z_list Z_len Z_range
  exact G_law
def spLaw (K : PySem.W.Frag) : Sp := fun vs H Q _ => ∃ (a : Addr) (ns : List Int), vs = [.ref a] ∧ SqL K H a (ns.map L2.V.int) ∧ ns.length ≤ 63 ∧ ∀ H', Q (.bl true) H'
theorem to_law {K : PySem.W.Frag} (hl : ∀ ns : List Int, ns.length ≤ 63 → ∃ o, F_law [.val (.list (ns.map D.int))] = some (.val (.bool true), o)) (vs : List L2.V) (H : Hp) (Q : VK) (E : XK) (h : spLaw K vs H Q E) : spF K 1 F_law vs H Q E := by
  obtain ⟨a, ns, rfl, hS, hn, q⟩ := h
  obtain ⟨o, ho⟩ := hl ns hn
  refine ⟨rfl, H, _, _, o, ⟨rfl, Evl.Ex.refl H, fun i v s h1 h2 => ?_, fun i j p q d e l h1 => ?_⟩, ho, fun v V' H' _ r => ?_⟩
  · cases i with
    | zero => cases h1; cases h2; exact R.list hS (RA.ints ns)
    | succ i => simp at h1
  · cases i with
    | zero => cases h1
    | succ i => simp at h1
  · rw [R.isBool r]; exact q H'
theorem walk (hl : ∀ ns : List Int, ns.length ≤ 63 → ∃ o, F_law [.val (.list (ns.map D.int))] = some (.val (.bool true), o)) {l : PySem.W.OpenLaw} {q : Program} {loose : List Str} {XP : (Str → Option Value) → Heap → Prop} {YP : World → Heap → Prop} {d : DefRec} {K : Params → PySem.W.Frag}
    (hn : l.most = some 63) (hdf : d.params.defaults = []) (hY : ∀ (w : World) (h : Heap), YP w h → (K w.params).In h)
    (F : ∀ (w : World) (mg : Str → Option Value) (fa : Addr) (h : Heap), (K w.params).In h → h.Ns mainGlobals mg → mg d.name = some (.ref fa) →
      ∃ fd : FuncData, (∀ (s : Shared) (u : Value), BindsTo s fd ⟨[u], []⟩ [("script", u)]) ∧ ∀ base : Heap, (K w.params).In base → base.Ns mainGlobals mg → FnOk l.prog w (K w.params) mg base CX0 4 fa fd ["script"] (spF (K w.params) 1 F_law)) :
    PySem.W.WalkO q loose XP YP l.row.toRowW d [] (fun f vs => PySem.call f vs) :=
  L2.walk_of (n := 63) (k := 4) (x := "script") (CX := fun _ => CX0) (sp := fun w => spLaw (K w.params)) hn (by decide) hdf ⟨rfl, by decide, by decide⟩ hY
    (fun w mg fa h h1 h2 h3 => let ⟨fd, g1, g2⟩ := F w mg fa h h1 h2 h3; ⟨fd, g1, fun base b1 b2 => (g2 base b1 b2).imp (to_law hl)⟩)
    (fun _ _ a ns hl _ hS => ⟨a, ns, rfl, hS, hl, fun _ => rfl⟩) fun _ _ _ _ _ z => z
end LK24
open PySem PySem.W PyProof.Rows
set_option maxRecDepth 100000 in
set_option maxHeartbeats 0 in
theorem PySem.Challenge.cw_lastproof_k24_tokens_of_a_line_holds : PySem.Challenge.rw_lastproof_k24_tokens_of_a_line.Holds := by
  w_on; o_law; k_head; (case hw => w_witness2)
  k_fill
  refine LK24.walk LK24.law_holds (l := PySem.Challenge.rw_lastproof_k24_tokens_of_a_line) rfl rfl (fun w h Y => PySem.W.kIn_of Y) ?F
  case F =>
    intro w mg fa h KX G hmg
    refine' LK24.all_mk KX G hmg ?q1_word_at ?q2_word_at ?q3_word_at ?q4_word_at ?q1_token_at ?q2_token_at ?q3_token_at ?q4_token_at ?q1_tokens ?q2_tokens ?q3_tokens ?q4_tokens ?q1__law_cell ?q2__law_cell ?q3__law_cell ?q4__law_cell ?q1__law_is_integer ?q2__law_is_integer ?q3__law_is_integer ?q4__law_is_integer ?q1__law_drawn ?q2__law_drawn ?q3__law_drawn ?q4__law_drawn ?q1__law_is_word ?q2__law_is_word ?q3__law_is_word ?q4__law_is_word ?q1__law_due ?q2__law_due ?q3__law_due ?q4__law_due ?q1_law ?q2_law ?q3_law ?q4_law ?z_len ?z_int ?z_isinstance ?z_bool ?z_range ?z_tuple ?z_list ?c_WORD_CHARACTERS ?c_SIGNS ?c_LONGEST_WORD
    (case q1_word_at => k_is)
    (case q2_word_at => k_is)
    (case q3_word_at => k_is)
    (case q4_word_at => k_is)
    (case q1_token_at => k_is)
    (case q2_token_at => k_is)
    (case q3_token_at => k_is)
    (case q4_token_at => k_is)
    (case q1_tokens => k_is)
    (case q2_tokens => k_is)
    (case q3_tokens => k_is)
    (case q4_tokens => k_is)
    (case q1__law_cell => k_is)
    (case q2__law_cell => k_is)
    (case q3__law_cell => k_is)
    (case q4__law_cell => k_is)
    (case q1__law_is_integer => k_is)
    (case q2__law_is_integer => k_is)
    (case q3__law_is_integer => k_is)
    (case q4__law_is_integer => k_is)
    (case q1__law_drawn => k_is)
    (case q2__law_drawn => k_is)
    (case q3__law_drawn => k_is)
    (case q4__law_drawn => k_is)
    (case q1__law_is_word => k_is)
    (case q2__law_is_word => k_is)
    (case q3__law_is_word => k_is)
    (case q4__law_is_word => k_is)
    (case q1__law_due => k_is)
    (case q2__law_due => k_is)
    (case q3__law_due => k_is)
    (case q4__law_due => k_is)
    (case q1_law => k_is)
    (case q2_law => k_is)
    (case q3_law => k_is)
    (case q4_law => k_is)
    (case z_len => k_is)
    (case z_int => k_is)
    (case z_isinstance => k_is)
    (case z_bool => k_is)
    (case z_range => k_is)
    (case z_tuple => k_is)
    (case z_list => k_is)
    (case c_WORD_CHARACTERS => k_is)
    (case c_SIGNS => k_is)
    (case c_LONGEST_WORD => k_is)
