import PyProof.Rows.All
import Wide.All
import OpenK.AllK
import Wide.FinOn
import HandS.ForMost
import HandS.Evl
import HandS.IsInst
import HandS.Wide
import HandS.Flow
import HandS.Conv
import HandS.TryOnly
import HandS.TupAny
import KE.GoesMore
import KE.KRevSl
import HandS.Style
import HandS.Walk
import HandS.Iter
import PyProof.StrOps2
import HandS.Dict
import HandS.Words
import HandS.Rev
import HandS.SetKeys
import HandS.DictComp
import PySem.Challenge.RW_lastproof_k65_axioms_of_questions
set_option Elab.async false
set_option linter.all false
set_option maxRecDepth 100000
set_option maxHeartbeats 4000000
namespace DL
open PySem PySem.Spec PyProof.Rows L2
open Evl (Ex)

/-- data, without the heap -/
inductive D where
  | none
  | bool (b : Bool)
  | int (i : Int)
  | str (s : Str)
  | list (xs : List D)
  | tuple (xs : List D)
  | dictK (ks : List Key) (vs : List D)
  | dictT (ks : List (List Key)) (vs : List D)
  | fn (j : Nat)

mutual
inductive R (K : PySem.W.Frag) (H : Hp) : V → D → Prop
  | none : R K H .non .none
  | bool (b : Bool) : R K H (.bl b) (.bool b)
  | int (i : Int) : R K H (.int i) (.int i)
  | str (x : Str) : R K H (.str x) (.str x)
  | list {a : Addr} {xs : List V} {ds : List D} : SqL K H a xs → RA K H xs ds → R K H (.ref a) (.list ds)
  | tuple {a : Addr} {xs : List V} {ds : List D} : SqT K H a xs → RA K H xs ds → R K H (.ref a) (.tuple ds)
  | dictK {a : Addr} {kvs : List (Key × V)} {ks : List Key} {ds : List D} : H a = some (.dK kvs) → kvs.map (·.1) = ks → RA K H (kvs.map (·.2)) ds → R K H (.ref a) (.dictK ks ds)
  | dictT {a : Addr} {kvs : List (List Key × V)} {ks : List (List Key)} {ds : List D} : H a = some (.dT kvs) → kvs.map (·.1) = ks → RA K H (kvs.map (·.2)) ds → R K H (.ref a) (.dictT ks ds)
inductive RA (K : PySem.W.Frag) (H : Hp) : List V → List D → Prop
  | nil : RA K H [] []
  | cons {v : V} {vs : List V} {d : D} {ds : List D} : R K H v d → RA K H vs ds → RA K H (v :: vs) (d :: ds)
end

section
variable {K : PySem.W.Frag} {H H' V V' : Hp}
mutual
theorem R.mono (e : Ex H H') : ∀ (d : D) (v : L2.V), R K H v d → R K H' v d
  | .none, _, h => by cases h; exact .none
  | .bool b, _, h => by cases h; exact .bool b
  | .int i, _, h => by cases h; exact .int i
  | .str s, _, h => by cases h; exact .str s
  | .list ds, _, h => by
    cases h with
    | list hs ha => exact .list (Evl.ex_l e hs) (RA.mono e ds _ ha)
  | .tuple ds, _, h => by
    cases h with
    | tuple hs ha => exact .tuple (Evl.ex_t e hs) (RA.mono e ds _ ha)
  | .dictK ks ds, _, h => by
    cases h with
    | dictK hs hk ha => exact .dictK (e _ _ hs) hk (RA.mono e ds _ ha)
  | .dictT ks ds, _, h => by
    cases h with
    | dictT hs hk ha => exact .dictT (e _ _ hs) hk (RA.mono e ds _ ha)
  | .fn j, _, h => by cases h
theorem RA.mono (e : Ex H H') : ∀ (ds : List D) (vs : List L2.V), RA K H vs ds → RA K H' vs ds
  | [], _, h => by cases h; exact .nil
  | d :: ds, _, h => by
    cases h with
    | cons h1 h2 => exact .cons (R.mono e d _ h1) (RA.mono e ds _ h2)
end
theorem RA.len : ∀ {ds : List D} {vs : List L2.V}, RA K H vs ds → vs.length = ds.length
  | [], _, h => by cases h; rfl
  | d :: ds, _, h => by
    cases h with
    | cons h1 h2 => rw [List.length_cons, List.length_cons, RA.len h2]
theorem RA.get : ∀ {ds : List D} {vs : List L2.V} {i : Nat} {d : D}, RA K H vs ds → ds[i]? = some d → ∃ v, vs[i]? = some v ∧ R K H v d
  | [], _, _, _, h, e => by simp at e
  | d :: ds, _, 0, d', h, e => by
    cases h with
    | cons h1 h2 =>
      have : d = d' := Option.some.inj e
      subst this
      exact ⟨_, rfl, h1⟩
  | d :: ds, _, i + 1, d', h, e => by
    cases h with
    | cons h1 h2 =>
      obtain ⟨v, hv, hr⟩ := RA.get (i := i) h2 e
      exact ⟨v, hv, hr⟩
theorem RA.getV : ∀ {ds : List D} {vs : List L2.V} {i : Nat} {v : L2.V}, RA K H vs ds → vs[i]? = some v → ∃ d, ds[i]? = some d ∧ R K H v d
  | [], _, _, _, h, e => by cases h; simp at e
  | d :: ds, _, 0, v', h, e => by
    cases h with
    | cons h1 h2 =>
      have := Option.some.inj e
      subst this
      exact ⟨_, rfl, h1⟩
  | d :: ds, _, i + 1, v', h, e => by
    cases h with
    | cons h1 h2 =>
      obtain ⟨v, hv, hr⟩ := RA.getV (i := i) h2 e
      exact ⟨v, hv, hr⟩
theorem RA.append : ∀ {ds es : List D} {vs us : List L2.V}, RA K H vs ds → RA K H us es → RA K H (vs ++ us) (ds ++ es)
  | [], _, _, _, h, k => by cases h; exact k
  | d :: ds, _, _, _, h, k => by
    cases h with
    | cons h1 h2 => exact .cons h1 (RA.append h2 k)
theorem RA.take (n : Nat) : ∀ {ds : List D} {vs : List L2.V}, RA K H vs ds → RA K H (vs.take n) (ds.take n) := by
  induction n with
  | zero => intro ds vs h; simp; exact .nil
  | succ n ih =>
    intro ds vs h
    cases ds with
    | nil => cases h; simp; exact .nil
    | cons d ds =>
      cases h with
      | cons h1 h2 =>
        simp only [List.take_succ_cons]
        exact .cons h1 (ih h2)
theorem RA.drop (n : Nat) : ∀ {ds : List D} {vs : List L2.V}, RA K H vs ds → RA K H (vs.drop n) (ds.drop n) := by
  induction n with
  | zero => intro ds vs h; exact h
  | succ n ih =>
    intro ds vs h
    cases ds with
    | nil => cases h; simp; exact .nil
    | cons d ds =>
      cases h with
      | cons h1 h2 =>
        simp only [List.drop_succ_cons]
        exact ih h2
theorem RA.set {v : L2.V} {d : D} (r : R K H v d) (n : Nat) : ∀ {ds : List D} {vs : List L2.V}, RA K H vs ds → RA K H (vs.set n v) (ds.set n d) := by
  induction n with
  | zero =>
    intro ds vs h
    cases h with
    | nil => exact .nil
    | cons h1 h2 => exact .cons r h2
  | succ n ih =>
    intro ds vs h
    cases h with
    | nil => exact .nil
    | cons h1 h2 => exact .cons h1 (ih h2)
theorem RA.rev : ∀ {ds : List D} {vs : List L2.V}, RA K H vs ds → RA K H vs.reverse ds.reverse
  | [], _, h => by cases h; exact .nil
  | d :: ds, _, h => by
    cases h with
    | cons h1 h2 =>
      rw [List.reverse_cons, List.reverse_cons]
      exact RA.append (RA.rev h2) (.cons h1 .nil)
theorem RA.ints : ∀ (ns : List Int), RA K H (ns.map L2.V.int) (ns.map D.int)
  | [] => .nil
  | n :: ns => .cons (.int n) (RA.ints ns)
theorem RA.ofInts : ∀ {ns : List Int} {vs : List L2.V}, RA K H vs (ns.map D.int) → vs = ns.map L2.V.int
  | [], _, h => by cases h; rfl
  | n :: ns, _, h => by
    cases h with
    | cons h1 h2 =>
      cases h1
      rw [RA.ofInts h2]
      rfl
end

/-! ### slots -/
/-- own p d: a container that nobody else sees, with the content d; p: a parameter -/
inductive Sl where
  | no
  | val (d : D)
  | own (p : Bool) (d : D)

/-- the content of an owned object at l -/
def OwnC (K : PySem.W.Frag) (V H : Hp) (l : Addr) : D → Prop
  | .list ds => ∃ xs, H l = some (.lst xs) ∧ RA K V xs ds
  | .dictK ks ds => ∃ kvs, H l = some (.dK kvs) ∧ kvs.map (·.1) = ks ∧ RA K V (kvs.map (·.2)) ds
  | .dictT ks ds => ∃ kvs, H l = some (.dT kvs) ∧ kvs.map (·.1) = ks ∧ RA K V (kvs.map (·.2)) ds
  | _ => False

def SlOk (K : PySem.W.Frag) (V H : Hp) : Option L2.V → Sl → Prop
  | _, .no => True
  | some v, .val d => R K V v d
  | some v, .own _ d => ∃ l, v = .ref l ∧ V l = none ∧ OwnC K V H l d
  | none, .val _ => False
  | none, .own _ _ => False

abbrev Nv := List Sl
def Own (env : Nv) (σ : L2.St) (l : Addr) : Prop := ∃ (i : Nat) (p : Bool) (d : D), env[i]? = some (Sl.own p d) ∧ σ[i]? = some (some (.ref l))
def OwnL (env : Nv) (σ : L2.St) (l : Addr) : Prop := ∃ (i : Nat) (d : D), env[i]? = some (Sl.own false d) ∧ σ[i]? = some (some (.ref l))
theorem OwnL.own {env : Nv} {σ : L2.St} {l : Addr} (h : OwnL env σ l) : Own env σ l := let ⟨i, d, h⟩ := h; ⟨i, false, d, h⟩

structure NvOk (K : PySem.W.Frag) (V H : Hp) (σ : L2.St) (env : Nv) : Prop where
  len : σ.length = env.length
  sub : Ex V H
  slot : ∀ (i : Nat) (o : Option L2.V) (s : Sl), σ[i]? = some o → env[i]? = some s → SlOk K V H o s
  one : ∀ (i j : Nat) (p q : Bool) (d e : D) (l : Addr), env[i]? = some (.own p d) → env[j]? = some (.own q e) → σ[i]? = some (some (.ref l)) → σ[j]? = some (some (.ref l)) → i = j

theorem OwnC.there {K : PySem.W.Frag} {V H : Hp} {l : Addr} {d : D} (h : OwnC K V H l d) : ∃ o, H l = some o := by
  cases d with
  | list ds => obtain ⟨xs, h, _⟩ := h; exact ⟨_, h⟩
  | dictK ks ds => obtain ⟨xs, h, _⟩ := h; exact ⟨_, h⟩
  | dictT ks ds => obtain ⟨xs, h, _⟩ := h; exact ⟨_, h⟩
  | _ => exact h.elim
theorem OwnC.mono {K : PySem.W.Frag} {V H V' H' : Hp} {l : Addr} {d : D} (h : OwnC K V H l d) (e : Ex V V') (k : H' l = H l) : OwnC K V' H' l d := by
  cases d with
  | list ds => obtain ⟨xs, h, r⟩ := h; exact ⟨xs, k.trans h, RA.mono e _ _ r⟩
  | dictK ks ds => obtain ⟨xs, h, r1, r⟩ := h; exact ⟨xs, k.trans h, r1, RA.mono e _ _ r⟩
  | dictT ks ds => obtain ⟨xs, h, r1, r⟩ := h; exact ⟨xs, k.trans h, r1, RA.mono e _ _ r⟩
  | _ => exact h.elim
/-- an owned object, seen in the heap -/
theorem OwnC.seen {K : PySem.W.Frag} {V H : Hp} {l : Addr} {d : D} (h : OwnC K V H l d) (e : Ex V H) : R K H (.ref l) d := by
  cases d with
  | list ds => obtain ⟨xs, h, r⟩ := h; exact .list (Evl.sq_of h) (RA.mono e _ _ r)
  | dictK ks ds => obtain ⟨xs, h, r1, r⟩ := h; exact .dictK h r1 (RA.mono e _ _ r)
  | dictT ks ds => obtain ⟨xs, h, r1, r⟩ := h; exact .dictT h r1 (RA.mono e _ _ r)
  | _ => exact h.elim
/-- .. made visible -/
theorem OwnC.publish {K : PySem.W.Frag} {V H : Hp} {l : Addr} {d : D} (h : OwnC K V H l d) (hv : V l = none) : ∃ o, H l = some o ∧ R K (upd V l o) (.ref l) d := by
  have e : ∀ o, Ex V (upd V l o) := fun o => Evl.Ex.new hv
  cases d with
  | list ds => obtain ⟨xs, h, r⟩ := h; exact ⟨_, h, .list (Evl.sq_of upd_same) (RA.mono (e _) _ _ r)⟩
  | dictK ks ds => obtain ⟨xs, h, r1, r⟩ := h; exact ⟨_, h, .dictK upd_same r1 (RA.mono (e _) _ _ r)⟩
  | dictT ks ds => obtain ⟨xs, h, r1, r⟩ := h; exact ⟨_, h, .dictT upd_same r1 (RA.mono (e _) _ _ r)⟩
  | _ => exact h.elim

/-- from one moment of a def's run to a later one -/
structure Adv (K : PySem.W.Frag) (σ : L2.St) (env : Nv) (σ' : L2.St) (env' : Nv) (V H V' H' : Hp) : Prop where
  ok : NvOk K V' H' σ' env'
  ex : Ex V V'
  fr : ∀ a, V' a ≠ none → V a ≠ none ∨ H a = none ∨ OwnL env σ a
  keep : ∀ a o, H a = some o → ¬ Own env σ a → H' a = some o
  dom : ∀ a, H a ≠ none → H' a ≠ none
  own : ∀ a, Own env' σ' a → Own env σ a ∨ H a = none
  ownL : ∀ a, OwnL env' σ' a → OwnL env σ a ∨ H a = none
  par : ∀ (i : Nat) (d : D), env[i]? = some (.own true d) → (∃ d', env'[i]? = some (.own true d')) ∧ σ'[i]? = σ[i]?

section
variable {K : PySem.W.Frag} {σ σ1 σ2 : L2.St} {env env1 env2 : Nv} {V H V1 H1 V2 H2 : Hp}
theorem Adv.refl (h : NvOk K V H σ env) : Adv K σ env σ env V H V H :=
  ⟨h, Evl.Ex.refl V, fun _ h => .inl h, fun _ _ h _ => h, fun _ h => h, fun _ h => .inl h, fun _ h => .inl h, fun _ d h => ⟨⟨d, h⟩, rfl⟩⟩
theorem Adv.trans (a : Adv K σ env σ1 env1 V H V1 H1) (b : Adv K σ1 env1 σ2 env2 V1 H1 V2 H2) : Adv K σ env σ2 env2 V H V2 H2 := by
  have nn : ∀ x, H1 x = none → H x = none := fun x h => by
    cases q : H x with
    | none => rfl
    | some o => exact absurd h (a.dom x (by rw [q]; exact fun z => by cases z))
  refine ⟨b.ok, a.ex.trans b.ex, fun x h => ?_, fun x o h n => ?_, fun x h => b.dom x (a.dom x h), fun x h => ?_, fun x h => ?_, fun i d h => ?_⟩
  · rcases b.fr x h with h | h | h
    · exact a.fr x h
    · exact .inr (.inl (nn x h))
    · rcases a.ownL x h with h | h
      · exact .inr (.inr h)
      · exact .inr (.inl h)
  · refine b.keep x o (a.keep x o h n) fun q => ?_
    rcases a.own x q with k | k
    · exact n k
    · rw [h] at k; cases k
  · rcases b.own x h with h | h
    · exact a.own x h
    · exact .inr (nn x h)
  · rcases b.ownL x h with h | h
    · exact a.ownL x h
    · exact .inr (nn x h)
  · obtain ⟨⟨d1, h1⟩, e1⟩ := a.par i d h
    obtain ⟨h2, e2⟩ := b.par i d1 h1
    exact ⟨h2, e2.trans e1⟩

theorem NvOk.ownC (ok : NvOk K V H σ env) {i : Nat} {p : Bool} {d : D} (h : env[i]? = some (.own p d)) : ∃ l, σ[i]? = some (some (.ref l)) ∧ V l = none ∧ OwnC K V H l d := by
  have hl : i < σ.length := by rw [ok.len]; exact (List.getElem?_eq_some_iff.mp h).1
  have e : σ[i]? = some σ[i] := List.getElem?_eq_getElem hl
  have q := ok.slot i _ _ e h
  cases ho : σ[i] with
  | none => rw [ho] at q; exact q.elim
  | some v =>
    rw [ho] at q e
    obtain ⟨l, rfl, h1, h2⟩ := q
    exact ⟨l, e, h1, h2⟩
theorem NvOk.val (ok : NvOk K V H σ env) {i : Nat} {d : D} (h : env[i]? = some (.val d)) : ∃ v, σ[i]? = some (some v) ∧ R K V v d := by
  have hl : i < σ.length := by rw [ok.len]; exact (List.getElem?_eq_some_iff.mp h).1
  have e : σ[i]? = some σ[i] := List.getElem?_eq_getElem hl
  have q := ok.slot i _ _ e h
  cases ho : σ[i] with
  | none => rw [ho] at q; exact q.elim
  | some v => rw [ho] at q e; exact ⟨v, e, q⟩
theorem NvOk.ownH (ok : NvOk K V H σ env) {l : Addr} (h : Own env σ l) : V l = none ∧ ∃ o, H l = some o := by
  obtain ⟨i, p, d, h1, h2⟩ := h
  obtain ⟨l', e, hv, hc⟩ := ok.ownC h1
  rw [h2] at e
  cases e
  exact ⟨hv, hc.there⟩
theorem NvOk.notOwn (ok : NvOk K V H σ env) {l : Addr} (h : H l = none) : ¬ Own env σ l := fun q => by
  obtain ⟨_, o, ho⟩ := ok.ownH q
  rw [h] at ho
  cases ho

/-- what only lays new things -/
structure Al (V H V' H' : Hp) : Prop where
  ex : Ex V V'
  sub : Ex V' H'
  keep : Ex H H'
  fr : ∀ a, V' a ≠ none → V a ≠ none ∨ H a = none
theorem Al.refl (h : Ex V H) : Al V H V H := ⟨Evl.Ex.refl V, h, Evl.Ex.refl H, fun _ h => .inl h⟩
/-- .. visible -/
theorem Al.new {p : Addr} {o : HO} (h : Ex V H) (hp : H p = none) : Al V H (upd V p o) (upd H p o) := by
  have hv : V p = none := Evl.fresh_back h hp
  refine ⟨Evl.Ex.new hv, fun a u e => ?_, Evl.Ex.new hp, fun a e => ?_⟩
  · by_cases q : a = p
    · subst q; rw [upd_same] at e ⊢; exact e
    · rw [upd_ne q] at e ⊢; exact h a u e
  · by_cases q : a = p
    · subst q; exact .inr hp
    · rw [upd_ne q] at e; exact .inl e
/-- .. hidden -/
theorem Al.hid {p : Addr} {o : HO} (h : Ex V H) (hp : H p = none) : Al V H V (upd H p o) :=
  ⟨Evl.Ex.refl V, h.trans (Evl.Ex.new hp), Evl.Ex.new hp, fun _ h => .inl h⟩
theorem Al.trans (a : Al V H V1 H1) (b : Al V1 H1 V2 H2) : Al V H V2 H2 :=
  ⟨a.ex.trans b.ex, b.sub, a.keep.trans b.keep, fun x h => by
    rcases b.fr x h with h | h
    · exact a.fr x h
    · exact .inr (Evl.fresh_back a.keep h)⟩
theorem NvOk.al (ok : NvOk K V H σ env) (a : Al V H V1 H1) : NvOk K V1 H1 σ env := by
  refine ⟨ok.len, a.sub, fun i o s h1 h2 => ?_, ok.one⟩
  have q := ok.slot i o s h1 h2
  cases s with
  | no => cases o <;> trivial
  | val d =>
    cases o with
    | none => exact q
    | some v => exact R.mono a.ex _ _ q
  | own p d =>
    cases o with
    | none => exact q
    | some v =>
      obtain ⟨l, rfl, h3, h4⟩ := q
      obtain ⟨u, hu⟩ := h4.there
      refine ⟨l, rfl, ?_, h4.mono a.ex ((a.keep l u hu).trans hu.symm)⟩
      cases z : V1 l with
      | none => rfl
      | some u2 =>
        rcases a.fr l (by rw [z]; exact fun z => by cases z) with k | k
        · exact absurd h3 k
        · rw [hu] at k; cases k
theorem Al.adv (a : Al V H V1 H1) (ok : NvOk K V H σ env) : Adv K σ env σ env V H V1 H1 :=
  ⟨ok.al a, a.ex, fun x h => (a.fr x h).elim .inl fun k => .inr (.inl k), fun x o h _ => a.keep x o h, (fun x h => by
    cases q : H x with
    | none => exact absurd q h
    | some o => rw [a.keep x o q]; exact fun z => by cases z), fun _ h => .inl h, fun _ h => .inl h, fun _ d h => ⟨⟨d, h⟩, rfl⟩⟩
end

/-! ### results -/
inductive Res where
  | val (d : D)
  | new (d : D)
  | own (i : Nat)

/-- v is the result of what began at σ0, env0, H0 -/
def ROk (K : PySem.W.Frag) (σ0 : L2.St) (env0 : Nv) (H0 V H : Hp) (σ : L2.St) (env : Nv) (v : L2.V) : Res → Prop
  | .val d => R K V v d
  | .new d => ∃ l, v = .ref l ∧ (H0 l = none ∨ OwnL env0 σ0 l) ∧ V l = none ∧ ¬ Own env σ l ∧ OwnC K V H l d
  | .own i => σ[i]? = some (some v) ∧ ∃ p d, env[i]? = some (.own p d)

/-- te, from env, gives the result and leaves env' -/
def Snd (K : PySem.W.Frag) (te : TE) (env : Nv) (r : Res) (env' : Nv) : Prop :=
  ∀ (σ : L2.St) (V H : Hp), NvOk K V H σ env → ∀ Q : VK, (∀ v V' H', Adv K σ env σ env' V H V' H' → ROk K σ env H V' H' σ env' v r → Q v H') → te σ H Q
def pub : Res → Res
  | .new d => .val d
  | r => r
section
variable {K : PySem.W.Frag} {σ σ1 σ2 σ0 : L2.St} {env env1 env2 env0 : Nv} {V H V1 H1 V2 H2 : Hp} {te : TE}
/-- a hidden thing is made visible -/
theorem Adv.show {l : Addr} {d : D} (a : Adv K σ env σ1 env1 V H V1 H1) (h0 : H l = none ∨ OwnL env σ l) (hv : V1 l = none) (hn : ¬ Own env1 σ1 l) (hc : OwnC K V1 H1 l d) :
    ∃ V2, Adv K σ env σ1 env1 V H V2 H1 ∧ R K V2 (.ref l) d := by
  obtain ⟨o, ho, r⟩ := hc.publish hv
  have hx : Ex V1 (upd V1 l o) := Evl.Ex.new hv
  refine ⟨upd V1 l o, ⟨⟨a.ok.len, fun b u e => ?_, fun i w s h1 h2 => ?_, a.ok.one⟩, a.ex.trans hx, fun b h => ?_, a.keep, a.dom, a.own, a.ownL, a.par⟩, r⟩
  · by_cases q : b = l
    · subst q; rw [upd_same] at e; cases e; exact ho
    · rw [upd_ne q] at e; exact a.ok.sub b u e
  · have q := a.ok.slot i w s h1 h2
    cases s with
    | no => cases w <;> trivial
    | val e =>
      cases w with
      | none => exact q
      | some v => exact R.mono hx _ _ q
    | own p e =>
      cases w with
      | none => exact q
      | some v =>
        obtain ⟨b, rfl, h3, h4⟩ := q
        have nb : b ≠ l := fun z => by
          subst z
          exact hn ⟨i, p, e, h2, h1⟩
        exact ⟨b, rfl, by rw [upd_ne nb]; exact h3, h4.mono hx rfl⟩
  · by_cases q : b = l
    · subst q
      exact h0.elim (fun z => .inr (.inl z)) fun z => .inr (.inr z)
    · rw [upd_ne q] at h; exact a.fr b h
theorem Snd.pub {r : Res} (h : Snd K te env r env1) : Snd K te env (DL.pub r) env1 := by
  cases r with
  | val d => exact h
  | own i => exact h
  | new d =>
    intro σ V H ok Q q
    refine h σ V H ok Q fun v V' H' a ⟨l, e, h0, hv, hn, hc⟩ => ?_
    obtain ⟨V2, a2, r2⟩ := a.show h0 hv hn hc
    subst e
    exact q _ V2 H' a2 r2
end
end DL

namespace DL
open PySem PySem.Spec PyProof.Rows L2
open Evl (Ex)

abbrev EvF := Nv → Option (Res × Nv)
abbrev EvA := Nv → Option (List Res × Nv)
abbrev EvT := Nv → Option (Bool × Nv)
def look (env : Nv) : Res → Option D
  | .val d => some d
  | .new d => some d
  | .own i => match env[i]? with
    | some (.own _ d) => some d
    | _ => none
def looks (env : Nv) : List Res → Option (List D)
  | [] => some []
  | r :: rs => (look env r).bind fun d => (looks env rs).bind fun ds => some (d :: ds)
/-- visible results -/
def vis : Res → Option D
  | .val d => some d
  | .new d => some d
  | .own _ => none
def viss : List Res → Option (List D)
  | [] => some []
  | r :: rs => (vis r).bind fun d => (viss rs).bind fun ds => some (d :: ds)
def opd (f : EvF) : EvF := fun env => (f env).bind fun p => some (pub p.1, p.2)
def argN : EvA := fun env => some ([], env)
def argC (f : EvF) (g : EvA) : EvA := fun env => (opd f env).bind fun p => (g p.2).bind fun q => some (p.1 :: q.1, q.2)

def Sd (K : PySem.W.Frag) (t : TE) (f : EvF) : Prop := ∀ env r env', f env = some (r, env') → Snd K t env r env'
def PD (X : Cx) (e : Expr) (f : EvF) : Prop := ∃ t, PE X e t ∧ Sd X.K t f

/-- an operand -/
def Held (K : PySem.W.Frag) (V : Hp) (σ : L2.St) (v : L2.V) : Res → Prop
  | .val d => R K V v d
  | .own i => σ[i]? = some (some v)
  | .new _ => False
inductive HeldA (K : PySem.W.Frag) (V : Hp) (σ : L2.St) : List L2.V → List Res → Prop
  | nil : HeldA K V σ [] []
  | cons {v r vs rs} : Held K V σ v r → HeldA K V σ vs rs → HeldA K V σ (v :: vs) (r :: rs)
def OpOk (K : PySem.W.Frag) (V H : Hp) (v : L2.V) (d : D) : Prop := R K V v d ∨ ∃ l, v = .ref l ∧ V l = none ∧ OwnC K V H l d
inductive OpA (K : PySem.W.Frag) (V H : Hp) : List L2.V → List D → Prop
  | nil : OpA K V H [] []
  | cons {v d vs ds} : OpOk K V H v d → OpA K V H vs ds → OpA K V H (v :: vs) (d :: ds)
section
variable {K : PySem.W.Frag} {σ : L2.St} {env env1 env2 : Nv} {V H V1 H1 V2 H2 : Hp} {v : L2.V} {te ta tb : TE}
theorem Held.mono {r : Res} (h : Held K V σ v r) (e : Ex V V1) : Held K V1 σ v r := by
  cases r with
  | val d => exact R.mono e _ _ h
  | own i => exact h
  | new d => exact h
theorem HeldA.mono {vs : List L2.V} {rs : List Res} (h : HeldA K V σ vs rs) (e : Ex V V1) : HeldA K V1 σ vs rs := by
  induction h with
  | nil => exact .nil
  | cons h _ ih => exact .cons (h.mono e) ih
theorem Held.look {r : Res} {d : D} (h : Held K V σ v r) (ok : NvOk K V H σ env) (e : look env r = some d) : OpOk K V H v d := by
  cases r with
  | val d' =>
    cases e
    exact .inl h
  | new d' => exact h.elim
  | own i =>
    have e' : (match env[i]? with
      | some (.own _ d) => some d
      | _ => none) = some d := e
    cases q : env[i]? with
    | none => rw [q] at e'; cases e'
    | some s =>
      rw [q] at e'
      cases s with
      | no => cases e'
      | val _ => cases e'
      | own p d' =>
        cases e'
        obtain ⟨l, h1, h2, h3⟩ := ok.ownC q
        have hv : σ[i]? = some (some v) := h
        rw [h1] at hv
        cases hv
        exact .inr ⟨l, rfl, h2, h3⟩
theorem HeldA.look {vs : List L2.V} {rs : List Res} (h : HeldA K V σ vs rs) (ok : NvOk K V H σ env) : ∀ {ds : List D}, looks env rs = some ds → OpA K V H vs ds := by
  induction h with
  | nil => intro ds e; cases e; exact .nil
  | cons h _ ih =>
    intro ds e
    simp only [looks, Option.bind_eq_some_iff] at e
    obtain ⟨d, e1, ds', e2, e3⟩ := e
    cases e3
    exact .cons (h.look ok e1) (ih e2)
theorem HeldA.vis {vs : List L2.V} {rs : List Res} (h : HeldA K V σ vs rs) : ∀ {ds : List D}, viss rs = some ds → RA K V vs ds := by
  induction h with
  | nil => intro ds e; cases e; exact .nil
  | @cons v r vs rs h _ ih =>
    intro ds e
    simp only [viss, Option.bind_eq_some_iff] at e
    obtain ⟨d, e1, ds', e2, e3⟩ := e
    cases e3
    refine .cons ?_ (ih e2)
    cases r with
    | val d' => cases e1; exact h
    | new d' => exact h.elim
    | own i => cases e1
theorem OpOk.seen {d : D} (h : OpOk K V H v d) (e : Ex V H) : R K H v d := by
  rcases h with h | ⟨l, rfl, _, h⟩
  · exact R.mono e _ _ h
  · exact h.seen e
theorem OpA.seen {vs : List L2.V} {ds : List D} (h : OpA K V H vs ds) (e : Ex V H) : RA K H vs ds := by
  induction h with
  | nil => exact .nil
  | cons h _ ih => exact .cons (h.seen e) ih
theorem ROk.held {r : Res} {σ0 : L2.St} {env0 : Nv} {H0 : Hp} (h : ROk K σ0 env0 H0 V H σ env v (pub r)) : Held K V σ v (pub r) := by
  cases r with
  | val d => exact h
  | new d => exact h
  | own i => exact h.1
theorem opd_snd {f : EvF} {r : Res} (h : Sd K te f) (e : opd f env = some (r, env1)) (ok : NvOk K V H σ env) {Q : VK} (q : ∀ v V' H', Adv K σ env σ env1 V H V' H' → Held K V' σ v r → Q v H') : te σ H Q := by
  simp only [opd, Option.bind_eq_some_iff] at e
  obtain ⟨⟨r0, e0⟩, e1, e2⟩ := e
  cases e2
  exact (h env r0 _ e1).pub σ V H ok Q fun v V' H' a h => q v V' H' a h.held

/-- what an operation gives: H the heap ahead -/
def RR (K : PySem.W.Frag) (H V' H' : Hp) (v : L2.V) : Res → Prop
  | .val d => R K V' v d
  | .new d => ∃ l, v = .ref l ∧ H l = none ∧ V' l = none ∧ OwnC K V' H' l d
  | .own _ => False
theorem RR.rok {r : Res} (a : Adv K σ env σ env1 V H V1 H1) (b : Al V1 H1 V2 H2) (h : RR K H1 V2 H2 v r) : ROk K σ env H V2 H2 σ env1 v r := by
  cases r with
  | val d => exact h
  | own i => exact h.elim
  | new d =>
    obtain ⟨l, e, h1, h2, h3⟩ := h
    refine ⟨l, e, .inl ?_, h2, a.ok.notOwn h1, h3⟩
    cases q : H l with
    | none => rfl
    | some o => exact absurd h1 (a.dom l (by rw [q]; exact fun z => by cases z))

def BinOk (K : PySem.W.Frag) (r : R2) (g : D → D → Option Res) : Prop :=
  ∀ (V H : Hp) (x y : L2.V) (d e : D) (res : Res), Ex V H → OpOk K V H x d → OpOk K V H y e → g d e = some res → ∀ Q : VK, (∀ v V' H', Al V H V' H' → RR K H V' H' v res → Q v H') → r x y H Q
def UnOk (K : PySem.W.Frag) (r : L2.V → Hp → VK → Prop) (g : D → Option Res) : Prop :=
  ∀ (V H : Hp) (x : L2.V) (d : D) (res : Res), Ex V H → OpOk K V H x d → g d = some res → ∀ Q : VK, (∀ v V' H', Al V H V' H' → RR K H V' H' v res → Q v H') → r x H Q
def CallOk (K : PySem.W.Frag) (r : List L2.V → Hp → VK → Prop) (g : List D → Option Res) : Prop :=
  ∀ (V H : Hp) (vs : List L2.V) (ds : List D) (res : Res), Ex V H → OpA K V H vs ds → g ds = some res → ∀ Q : VK, (∀ v V' H', Al V H V' H' → RR K H V' H' v res → Q v H') → r vs H Q

def iBin (g : D → D → Option Res) (fa fb : EvF) : EvF := fun env => (opd fa env).bind fun p => (opd fb p.2).bind fun q =>
  (look q.2 p.1).bind fun d => (look q.2 q.1).bind fun e => (g d e).bind fun r => some (r, q.2)
theorem sd_bin {r : R2} {g : D → D → Option Res} {fa fb : EvF} (hB : BinOk K r g) (ha : Sd K ta fa) (hb : Sd K tb fb) : Sd K (tOp r ta tb) (iBin g fa fb) := by
  intro env res env' e σ V H ok Q q
  simp only [iBin, Option.bind_eq_some_iff] at e
  obtain ⟨⟨ra, e1⟩, h1, ⟨rb, e2⟩, h2, d, h3, d', h4, r', h5, h6⟩ := e
  cases h6
  refine opd_snd ha h1 ok fun x V1 H1 a1 k1 => ?_
  refine opd_snd hb h2 a1.ok fun y V2 H2 a2 k2 => ?_
  have a := a1.trans a2
  exact hB V2 H2 x y d d' res a.ok.sub ((k1.mono a2.ex).look a.ok h3) (k2.look a.ok h4) h5 Q fun v V' H' b hr => q v V' H' (a.trans (b.adv a.ok)) (hr.rok a b)
def iUn (g : D → Option Res) (fa : EvF) : EvF := fun env => (opd fa env).bind fun p => (look p.2 p.1).bind fun d => (g d).bind fun r => some (r, p.2)
theorem sd_un {r : L2.V → Hp → VK → Prop} {g : D → Option Res} {fa : EvF} (hB : UnOk K r g) (ha : Sd K ta fa) : Sd K (tUn r ta) (iUn g fa) := by
  intro env res env' e σ V H ok Q q
  simp only [iUn, Option.bind_eq_some_iff] at e
  obtain ⟨⟨ra, e1⟩, h1, d, h3, r', h5, h6⟩ := e
  cases h6
  refine opd_snd ha h1 ok fun x V1 H1 a k1 => ?_
  exact hB V1 H1 x d res a.ok.sub (k1.look a.ok h3) h5 Q fun v V' H' b hr => q v V' H' (a.trans (b.adv a.ok)) (hr.rok a b)

/-! ### arguments -/
def SdA (K : PySem.W.Frag) (t : TA) (f : EvA) : Prop := ∀ env rs env', f env = some (rs, env') → ∀ (σ : L2.St) (V H : Hp), NvOk K V H σ env →
  ∀ Q : List L2.V → Hp → Prop, (∀ vs V' H', Adv K σ env σ env' V H V' H' → HeldA K V' σ vs rs → Q vs H') → t σ H Q
theorem sda_nil : SdA K tNil argN := by
  intro env rs env' e σ V H ok Q q
  cases e
  exact q [] V H (Adv.refl ok) .nil
theorem sda_cons {t : TA} {f : EvF} {g : EvA} (ha : Sd K te f) (hr : SdA K t g) : SdA K (tCons te t) (argC f g) := by
  intro env rs env' e σ V H ok Q q
  simp only [argC, Option.bind_eq_some_iff] at e
  obtain ⟨⟨ra, e1⟩, h1, ⟨rb, e2⟩, h2, h6⟩ := e
  cases h6
  refine opd_snd ha h1 ok fun x V1 H1 a1 k1 => ?_
  refine hr _ _ _ h2 σ V1 H1 a1.ok _ fun vs V2 H2 a2 k2 => ?_
  exact q _ V2 H2 (a1.trans a2) (.cons (k1.mono a2.ex) k2)
/-- a call by values -/
def iCB (g : List D → Option Res) (fs : EvA) : EvF := fun env => (fs env).bind fun p => (looks p.2 p.1).bind fun ds => (g ds).bind fun r => some (r, p.2)
theorem sd_cb {r : List L2.V → Hp → VK → Prop} {g : List D → Option Res} {t : TA} {fs : EvA} (hB : CallOk K r g) (ha : SdA K t fs) : Sd K (tCB r t) (iCB g fs) := by
  intro env res env' e σ V H ok Q q
  simp only [iCB, Option.bind_eq_some_iff] at e
  obtain ⟨⟨ra, e1⟩, h1, ds, h3, r', h5, h6⟩ := e
  cases h6
  refine ha _ _ _ h1 σ V H ok _ fun vs V1 H1 a k1 => ?_
  exact hB V1 H1 vs ds res a.ok.sub (k1.look a.ok h3) h5 Q fun v V' H' b hr => q v V' H' (a.trans (b.adv a.ok)) (hr.rok a b)
/-- tuples, lists -/
def iTup (fs : EvA) : EvF := fun env => (fs env).bind fun p => (viss p.1).bind fun ds => if ds.length ≤ 1000 then some (.val (.tuple ds), p.2) else none
def iLst (fs : EvA) : EvF := fun env => (fs env).bind fun p => (viss p.1).bind fun ds => if ds.length ≤ 1000 then some (.new (.list ds), p.2) else none
theorem sz1000 {n : Nat} (h : n ≤ 1000) : n ≤ sizeLine := Nat.le_of_lt (small1000 h)
theorem sd_tup {t : TA} {fs : EvA} (ha : SdA K t fs) : Sd K (tTup t) (iTup fs) := by
  intro env res env' e σ V H ok Q q
  simp only [iTup, Option.bind_eq_some_iff] at e
  obtain ⟨⟨ra, e1⟩, h1, ds, h3, h6⟩ := e
  split at h6
  · rename_i hz
    cases h6
    refine ha _ _ _ h1 σ V H ok _ fun vs V1 H1 a k1 => ?_
    have r := k1.vis h3
    refine ⟨sz1000 (by rw [r.len]; exact hz), fun p hp => ?_⟩
    have b : Al V1 H1 (upd V1 p (.tup vs)) (upd H1 p (.tup vs)) := Al.new a.ok.sub hp
    exact q _ _ _ (a.trans (b.adv a.ok)) (.tuple (Evl.st_of upd_same) (RA.mono b.ex _ _ r))
  · cases h6
theorem sd_lst {t : TA} {fs : EvA} (ha : SdA K t fs) : Sd K (tLst t) (iLst fs) := by
  intro env res env' e σ V H ok Q q
  simp only [iLst, Option.bind_eq_some_iff] at e
  obtain ⟨⟨ra, e1⟩, h1, ds, h3, h6⟩ := e
  split at h6
  · rename_i hz
    cases h6
    refine ha _ _ _ h1 σ V H ok _ fun vs V1 H1 a k1 => ?_
    have r := k1.vis h3
    refine ⟨sz1000 (by rw [r.len]; exact hz), fun p hp => ?_⟩
    have b : Al V1 H1 V1 (upd H1 p (.lst vs)) := Al.hid a.ok.sub hp
    refine q _ _ _ (a.trans (b.adv a.ok)) (RR.rok (r := .new (.list ds)) a b ⟨p, rfl, hp, Evl.fresh_back a.ok.sub hp, vs, upd_same, r⟩)
  · cases h6

/-! ### names, constants -/
def iVar (i : Nat) : EvF := fun env => match env[i]? with
  | some (.val d) => some (.val d, env)
  | some (.own _ _) => some (.own i, env)
  | _ => none
theorem sd_var (i : Nat) : Sd K (tVar i) (iVar i) := by
  intro env res env' e σ V H ok Q q
  unfold iVar at e
  split at e
  · rename_i d h
    cases e
    obtain ⟨v, h1, h2⟩ := ok.val h
    exact ⟨v, h1, q v V H (Adv.refl ok) h2⟩
  · rename_i p d h
    cases e
    obtain ⟨l, h1, h2, h3⟩ := ok.ownC h
    exact ⟨_, h1, q _ V H (Adv.refl ok) ⟨h1, p, d, h⟩⟩
  · cases e
def iCon (d : D) : EvF := fun env => some (.val d, env)
theorem sd_con {v : L2.V} {d : D} (h : R K (fun _ => none) v d) : Sd K (tC v) (iCon d) := by
  intro env res env' e σ V H ok Q q
  cases e
  exact q v V H (Adv.refl ok) (R.mono (fun a o z => by cases z) _ _ h)

/-! ### tests -/
def SdT (K : PySem.W.Frag) (t : TT) (f : EvT) : Prop := ∀ env b env', f env = some (b, env') → ∀ (σ : L2.St) (V H : Hp), NvOk K V H σ env →
  ∀ Q : Bool → Hp → Prop, (∀ V' H', Adv K σ env σ env' V H V' H' → Q b H') → t σ H Q
def isB : Res → Option Bool
  | .val (.bool b) => some b
  | _ => none
def iTst (f : EvF) : EvT := fun env => (f env).bind fun p => (isB p.1).bind fun b => some (b, p.2)
theorem R.isBool {b : Bool} (h : R K V v (.bool b)) : v = .bl b := by cases h; rfl
theorem isB_val {r : Res} {b : Bool} (h : isB r = some b) : r = .val (.bool b) := by
  cases r with
  | val d => cases d <;> first | (cases h; rfl) | cases h
  | _ => cases h
theorem sdt_test {f : EvF} (ha : Sd K te f) : SdT K (tTest te) (iTst f) := by
  intro env b env' e σ V H ok Q q
  simp only [iTst, Option.bind_eq_some_iff] at e
  obtain ⟨⟨r, e1⟩, h1, b', h2, h3⟩ := e
  cases h3
  have hr : r = _ := isB_val h2
  subst hr
  exact ha _ _ _ h1 σ V H ok _ fun v V' H' a k0 => ⟨b, R.isBool k0, q V' H' a⟩
def truD : D → Option Bool
  | .none => some false
  | .bool b => some b
  | .int i => some (i != 0)
  | .str s => if s.length ≤ 100000 then some ((s.length : Int) != 0) else none
  | .list ds => some (!ds.isEmpty)
  | .tuple ds => some (!ds.isEmpty)
  | .dictK ks _ => some (!ks.isEmpty)
  | _ => none
theorem RA.isEmpty {vs : List L2.V} {ds : List D} (h : RA K V vs ds) : vs.isEmpty = ds.isEmpty := by cases h <;> rfl
theorem truV_of {d : D} {b : Bool} (h : OpOk K V H v d) (sub : Ex V H) (e : truD d = some b) : TruV K v H b := by
  have r := h.seen sub
  cases d with
  | none => cases r; cases e; rfl
  | bool c => cases r; cases e; rfl
  | int i => cases r; cases e; rfl
  | str s =>
    cases r
    simp only [truD] at e
    split at e
    · rename_i hz
      cases e
      exact ⟨Evl.sz_of hz, rfl⟩
    · cases e
  | list ds =>
    cases r with
    | list hs ha => cases e; exact .inl ⟨_, hs, by rw [ha.isEmpty]⟩
  | tuple ds =>
    cases r with
    | tuple hs ha => cases e; exact .inr (.inl ⟨_, hs, by rw [ha.isEmpty]⟩)
  | dictK ks ds =>
    cases r with
    | @dictK a kvs _ _ hs hk ha =>
      cases e
      refine .inr (.inr ⟨_, hs, ?_⟩)
      rw [← hk]
      cases kvs <;> rfl
  | dictT _ _ => cases e
  | fn j => cases e
def iTru (f : EvF) : EvT := fun env => (opd f env).bind fun p => (look p.2 p.1).bind fun d => (truD d).bind fun b => some (b, p.2)
theorem sdt_tru {f : EvF} (ha : Sd K te f) : SdT K (fun σ H Q => te σ H fun x H' => ∃ k, TruV K x H' k ∧ Q k H') (iTru f) := by
  intro env b env' e σ V H ok Q q
  simp only [iTru, Option.bind_eq_some_iff] at e
  obtain ⟨⟨r, e1⟩, h1, d, h2, b', h3, h4⟩ := e
  cases h4
  exact opd_snd ha h1 ok fun v V' H' a k => ⟨b, truV_of (k.look a.ok h2) a.ok.sub h3, q V' H' a⟩
def iNotT (f : EvT) : EvT := fun env => (f env).bind fun p => some (!p.1, p.2)
def iAndT (f g : EvT) : EvT := fun env => (f env).bind fun p => if p.1 = true then g p.2 else some (false, p.2)
def iOrT (f g : EvT) : EvT := fun env => (f env).bind fun p => if p.1 = true then some (true, p.2) else g p.2
variable {t u : TT} {f g : EvT}
theorem sdt_not (ha : SdT K t f) : SdT K (tNot t) (iNotT f) := by
  intro env b env' e σ V H ok Q q
  simp only [iNotT, Option.bind_eq_some_iff] at e
  obtain ⟨⟨c, e1⟩, h1, h2⟩ := e
  cases h2
  exact ha _ _ _ h1 σ V H ok _ q
theorem sdt_and (ha : SdT K t f) (hb : SdT K u g) : SdT K (tAnd t u) (iAndT f g) := by
  intro env b env' e σ V H ok Q q
  simp only [iAndT, Option.bind_eq_some_iff] at e
  obtain ⟨⟨c, e1⟩, h1, h2⟩ := e
  refine ha _ _ _ h1 σ V H ok _ fun V' H' a => ?_
  cases c with
  | true =>
    rw [if_pos rfl]
    rw [if_pos rfl] at h2
    exact hb _ _ _ h2 σ V' H' a.ok _ fun V2 H2 a2 => q V2 H2 (a.trans a2)
  | false =>
    rw [if_neg Bool.false_ne_true]
    rw [if_neg Bool.false_ne_true] at h2
    cases h2
    exact q V' H' a
theorem sdt_or (ha : SdT K t f) (hb : SdT K u g) : SdT K (tOr t u) (iOrT f g) := by
  intro env b env' e σ V H ok Q q
  simp only [iOrT, Option.bind_eq_some_iff] at e
  obtain ⟨⟨c, e1⟩, h1, h2⟩ := e
  refine ha _ _ _ h1 σ V H ok _ fun V' H' a => ?_
  cases c with
  | true =>
    rw [if_pos rfl]
    rw [if_pos rfl] at h2
    cases h2
    exact q V' H' a
  | false =>
    rw [if_neg Bool.false_ne_true]
    rw [if_neg Bool.false_ne_true] at h2
    exact hb _ _ _ h2 σ V' H' a.ok _ fun V2 H2 a2 => q V2 H2 (a.trans a2)
/-! ### and, or, not, if as values -/
def iAnd (fa fb : EvF) : EvF := fun env => (fa env).bind fun p => (isB p.1).bind fun b => if b = true then fb p.2 else some (.val (.bool false), p.2)
def iOr (fa fb : EvF) : EvF := fun env => (fa env).bind fun p => (isB p.1).bind fun b => if b = true then some (.val (.bool true), p.2) else fb p.2
def iNot (fa : EvF) : EvF := fun env => (fa env).bind fun p => (isB p.1).bind fun b => some (.val (.bool (!b)), p.2)
def iIf (c : EvT) (fa fb : EvF) : EvF := fun env => (c env).bind fun p => if p.1 = true then fa p.2 else fb p.2
theorem ROk.trans {r : Res} {V' H' : Hp} (a : Adv K σ env σ env1 V H V1 H1) (h : ROk K σ env1 H1 V' H' σ env2 v r) : ROk K σ env H V' H' σ env2 v r := by
  cases r with
  | val d => exact h
  | own i => exact h
  | new d =>
    obtain ⟨l, e, h1, h2⟩ := h
    refine ⟨l, e, ?_, h2⟩
    rcases h1 with h1 | h1
    · cases q : H l with
      | none => exact .inl rfl
      | some o => exact absurd h1 (a.dom l (by rw [q]; exact fun z => by cases z))
    · exact (a.ownL l h1).elim .inr .inl
variable {fa fb : EvF}
theorem sd_and (ha : Sd K ta fa) (hb : Sd K tb fb) : Sd K (tAndV ta tb) (iAnd fa fb) := by
  intro env res env' e σ V H ok Q q
  simp only [iAnd, Option.bind_eq_some_iff] at e
  obtain ⟨⟨r, e1⟩, h1, b, h2, h3⟩ := e
  have hr : r = _ := isB_val h2
  subst hr
  refine ha _ _ _ h1 σ V H ok _ fun v V' H' a k0 => ⟨b, R.isBool k0, ?_⟩
  cases b with
  | true =>
    rw [if_pos rfl]
    rw [if_pos rfl] at h3
    exact hb _ _ _ h3 σ V' H' a.ok _ fun v V2 H2 a2 k => q v V2 H2 (a.trans a2) (k.trans a)
  | false =>
    rw [if_neg Bool.false_ne_true]
    rw [if_neg Bool.false_ne_true] at h3
    cases h3
    exact q _ V' H' a (R.bool false)
theorem sd_or (ha : Sd K ta fa) (hb : Sd K tb fb) : Sd K (tOrV ta tb) (iOr fa fb) := by
  intro env res env' e σ V H ok Q q
  simp only [iOr, Option.bind_eq_some_iff] at e
  obtain ⟨⟨r, e1⟩, h1, b, h2, h3⟩ := e
  have hr : r = _ := isB_val h2
  subst hr
  refine ha _ _ _ h1 σ V H ok _ fun v V' H' a k0 => ⟨b, R.isBool k0, ?_⟩
  cases b with
  | true =>
    rw [if_pos rfl]
    rw [if_pos rfl] at h3
    cases h3
    exact q _ V' H' a (R.bool true)
  | false =>
    rw [if_neg Bool.false_ne_true]
    rw [if_neg Bool.false_ne_true] at h3
    exact hb _ _ _ h3 σ V' H' a.ok _ fun v V2 H2 a2 k => q v V2 H2 (a.trans a2) (k.trans a)
theorem sd_not (ha : Sd K ta fa) : Sd K (tNotV ta) (iNot fa) := by
  intro env res env' e σ V H ok Q q
  simp only [iNot, Option.bind_eq_some_iff] at e
  obtain ⟨⟨r, e1⟩, h1, b, h2, h3⟩ := e
  have hr : r = _ := isB_val h2
  subst hr
  cases h3
  exact ha _ _ _ h1 σ V H ok _ fun v V' H' a k0 => ⟨b, R.isBool k0, q _ V' H' a (R.bool _)⟩
theorem sd_if (hc : SdT K t f) (ha : Sd K ta fa) (hb : Sd K tb fb) : Sd K (tIf t ta tb) (iIf f fa fb) := by
  intro env res env' e σ V H ok Q q
  simp only [iIf, Option.bind_eq_some_iff] at e
  obtain ⟨⟨c, e1⟩, h1, h2⟩ := e
  refine hc _ _ _ h1 σ V H ok _ fun V' H' a => ?_
  cases c with
  | true =>
    rw [if_pos rfl]
    rw [if_pos rfl] at h2
    exact ha _ _ _ h2 σ V' H' a.ok _ fun v V2 H2 a2 k => q v V2 H2 (a.trans a2) (k.trans a)
  | false =>
    rw [if_neg Bool.false_ne_true]
    rw [if_neg Bool.false_ne_true] at h2
    exact hb _ _ _ h2 σ V' H' a.ok _ fun v V2 H2 a2 k => q v V2 H2 (a.trans a2) (k.trans a)
end
end DL

namespace DL
open PySem PySem.Spec PyProof.Rows L2
open Evl (Ex)

inductive Fl where
  | next (e : Nv)
  | ret (r : Res) (e : Nv)
  | brk (e : Nv)
  | cont (e : Nv)
abbrev StF := Nv → Option Fl
def FlQ (K : PySem.W.Frag) (σ : L2.St) (env : Nv) (V H : Hp) (E : Ends) : Fl → Prop
  | .next e => ∀ σ' V' H', Adv K σ env σ' e V H V' H' → E.nx σ' H'
  | .ret r e => ∀ v σ' V' H', Adv K σ env σ' e V H V' H' → ROk K σ env H V' H' σ' e v r → E.rt v H'
  | .brk e => ∀ σ' V' H', Adv K σ env σ' e V H V' H' → E.bk σ' H'
  | .cont e => ∀ σ' V' H', Adv K σ env σ' e V H V' H' → E.ct σ' H'
def SdS (K : PySem.W.Frag) (t : TS) (g : StF) : Prop := ∀ env fl, g env = some fl → ∀ (σ : L2.St) (V H : Hp), NvOk K V H σ env → ∀ E : Ends, FlQ K σ env V H E fl → t E σ H

section
variable {K : PySem.W.Frag} {σ σ1 σ2 : L2.St} {env env1 env2 : Nv} {V H V1 H1 V2 H2 : Hp} {v : L2.V} {te ta tb : TE} {E : Ends}
theorem ROk.trans2 {r : Res} {V' H' : Hp} (a : Adv K σ env σ1 env1 V H V1 H1) (h : ROk K σ1 env1 H1 V' H' σ2 env2 v r) : ROk K σ env H V' H' σ2 env2 v r := by
  cases r with
  | val d => exact h
  | own i => exact h
  | new d =>
    obtain ⟨l, e, h1, h2⟩ := h
    refine ⟨l, e, ?_, h2⟩
    rcases h1 with h1 | h1
    · cases q : H l with
      | none => exact .inl rfl
      | some o => exact absurd h1 (a.dom l (by rw [q]; exact fun z => by cases z))
    · exact (a.ownL l h1).elim .inr .inl
theorem FlQ.of {fl : Fl} (a : Adv K σ env σ1 env1 V H V1 H1) (h : FlQ K σ env V H E fl) : FlQ K σ1 env1 V1 H1 E fl := by
  cases fl with
  | next e => exact fun σ' V' H' b => h σ' V' H' (a.trans b)
  | ret r e => exact fun v σ' V' H' b k => h v σ' V' H' (a.trans b) (k.trans2 a)
  | brk e => exact fun σ' V' H' b => h σ' V' H' (a.trans b)
  | cont e => exact fun σ' V' H' b => h σ' V' H' (a.trans b)

/-! ### a slot is set -/
def setV (env : Nv) (i : Nat) (s : Sl) : Option Nv := match env[i]? with
  | none => none
  | some (.own true _) => none
  | some _ => some (env.set i s)
theorem setV_eq {i : Nat} {s : Sl} (h : setV env i s = some env2) : env2 = env.set i s ∧ i < env.length ∧ ∀ d, env[i]? ≠ some (.own true d) := by
  unfold setV at h
  split at h
  · cases h
  · cases h
  · rename_i x hne e
    cases h
    refine ⟨rfl, (List.getElem?_eq_some_iff.mp e).1, fun d z => ?_⟩
    rw [z] at e
    exact hne d (Option.some.inj e).symm
theorem adv_set {i : Nat} {s : Sl} (a : Adv K σ env σ1 env1 V H V1 H1) (e : setV env1 i s = some env2) (hs : SlOk K V1 H1 (some v) s)
    (ho : ∀ p d l, s = .own p d → v = .ref l → p = false ∧ (H l = none ∨ OwnL env σ l) ∧ ¬ Own env1 σ1 l) : Adv K σ env (σ1.set i (some v)) env2 V H V1 H1 := by
  obtain ⟨rfl, hi, hp⟩ := setV_eq e
  have hl : i < σ1.length := by rw [a.ok.len]; exact hi
  -- what is owned now
  have own1 : ∀ (j : Nat) (p : Bool) (d : D) (l : Addr), (env1.set i s)[j]? = some (.own p d) → (σ1.set i (some v))[j]? = some (some (.ref l)) → (j = i ∧ s = .own p d ∧ v = .ref l) ∨ (j ≠ i ∧ env1[j]? = some (.own p d) ∧ σ1[j]? = some (some (.ref l))) := by
    intro j p d l h1 h2
    by_cases q : j = i
    · subst q
      rw [List.getElem?_set_self hi] at h1
      rw [List.getElem?_set_self hl] at h2
      exact .inl ⟨rfl, Option.some.inj h1, Option.some.inj (Option.some.inj h2)⟩
    · rw [List.getElem?_set_ne (fun z => q z.symm)] at h1 h2
      exact .inr ⟨q, h1, h2⟩
  refine ⟨⟨?_, a.ok.sub, fun j o s' h1 h2 => ?_, fun j k p q d d' l h1 h2 h3 h4 => ?_⟩, a.ex, a.fr, a.keep, a.dom, fun l h => ?_, fun l h => ?_, fun j d h => ?_⟩
  · rw [List.length_set, List.length_set]; exact a.ok.len
  · by_cases q : j = i
    · subst q
      rw [List.getElem?_set_self hl] at h1
      rw [List.getElem?_set_self hi] at h2
      cases h1
      cases h2
      exact hs
    · rw [List.getElem?_set_ne (fun z => q z.symm)] at h1 h2
      exact a.ok.slot j o s' h1 h2
  · rcases own1 j p d l h1 h3 with ⟨e1, e2, e3⟩ | ⟨e1, e2, e3⟩ <;> rcases own1 k q d' l h2 h4 with ⟨f1, f2, f3⟩ | ⟨f1, f2, f3⟩
    · rw [e1, f1]
    · exact absurd ⟨k, q, d', f2, f3⟩ (ho p d l e2 e3).2.2
    · exact absurd ⟨j, p, d, e2, e3⟩ (ho q d' l f2 f3).2.2
    · exact a.ok.one j k p q d d' l e2 f2 e3 f3
  · obtain ⟨j, p, d, h1, h2⟩ := h
    rcases own1 j p d l h1 h2 with ⟨e1, e2, e3⟩ | ⟨e1, e2, e3⟩
    · exact (ho p d l e2 e3).2.1.elim .inr fun z => .inl z.own
    · exact a.own l ⟨j, p, d, e2, e3⟩
  · obtain ⟨j, d, h1, h2⟩ := h
    rcases own1 j false d l h1 h2 with ⟨e1, e2, e3⟩ | ⟨e1, e2, e3⟩
    · exact (ho false d l e2 e3).2.1.elim .inr .inl
    · exact a.ownL l ⟨j, d, e2, e3⟩
  · obtain ⟨⟨d', h1⟩, h2⟩ := a.par j d h
    have q : j ≠ i := fun z => hp d' (z ▸ h1)
    rw [List.getElem?_set_ne (fun z => q z.symm), List.getElem?_set_ne (fun z => q z.symm)]
    exact ⟨⟨d', h1⟩, h2⟩
/-- a slot is forgotten -/
theorem adv_no {i : Nat} {s0 : Sl} (a : Adv K σ env σ1 env1 V H V1 H1) (e : env1[i]? = some s0) (hp : ∀ d, s0 ≠ .own true d) : Adv K σ env σ1 (env1.set i .no) V H V1 H1 := by
  have hi := (List.getElem?_eq_some_iff.mp e).1
  have own1 : ∀ (j : Nat) (p : Bool) (d : D), (env1.set i .no)[j]? = some (.own p d) → j ≠ i ∧ env1[j]? = some (.own p d) := by
    intro j p d h1
    by_cases q : j = i
    · subst q
      rw [List.getElem?_set_self hi] at h1
      cases h1
    · rw [List.getElem?_set_ne (fun z => q z.symm)] at h1
      exact ⟨q, h1⟩
  refine ⟨⟨?_, a.ok.sub, fun j o s' h1 h2 => ?_, fun j k p q d d' l h1 h2 h3 h4 => a.ok.one j k p q d d' l (own1 _ _ _ h1).2 (own1 _ _ _ h2).2 h3 h4⟩, a.ex, a.fr, a.keep, a.dom, fun l h => ?_, fun l h => ?_, fun j d h => ?_⟩
  · rw [List.length_set]; exact a.ok.len
  · by_cases q : j = i
    · subst q
      rw [List.getElem?_set_self hi] at h2
      cases h2
      cases o <;> trivial
    · rw [List.getElem?_set_ne (fun z => q z.symm)] at h2
      exact a.ok.slot j o s' h1 h2
  · obtain ⟨j, p, d, h1, h2⟩ := h
    exact a.own l ⟨j, p, d, (own1 _ _ _ h1).2, h2⟩
  · obtain ⟨j, d, h1, h2⟩ := h
    exact a.ownL l ⟨j, d, (own1 _ _ _ h1).2, h2⟩
  · obtain ⟨⟨d', h1⟩, h2⟩ := a.par j d h
    have q : j ≠ i := fun z => by
      subst z
      rw [e] at h1
      exact hp d' (Option.some.inj h1)
    rw [List.getElem?_set_ne (fun z => q z.symm)]
    exact ⟨⟨d', h1⟩, h2⟩

/-! ### statements -/
def iNext : StF := fun env => some (.next env)
theorem sds_next : SdS K tNext iNext := by
  intro env fl e σ V H ok E q
  cases e
  exact q σ V H (Adv.refl ok)
def iSeq (f g : StF) : StF := fun env => match f env with
  | some (.next e) => g e
  | r => r
variable {t u : TS} {f g : StF}
theorem sds_seq (ha : SdS K t f) (hb : SdS K u g) : SdS K (tSeq t u) (iSeq f g) := by
  intro env fl e σ V H ok E q
  show t { E with nx := u E } σ H
  unfold iSeq at e
  cases hf : f env with
  | none => rw [hf] at e; cases e
  | some fl1 =>
    rw [hf] at e
    refine ha _ _ hf σ V H ok _ ?_
    cases fl1 with
    | next e1 =>
      intro σ' V' H' a
      exact hb _ _ e σ' V' H' a.ok E (q.of a)
    | ret r e1 => cases e; exact q
    | brk e1 => cases e; exact q
    | cont e1 => cases e; exact q
/-- a target: what it makes of the slots -/
abbrev TgF := Nv → D → Option Nv
def SdG (K : PySem.W.Frag) (t : TG) (g : TgF) : Prop := ∀ env d env', g env d = some env' → ∀ (σ : L2.St) (V H : Hp) (v : L2.V), NvOk K V H σ env → R K V v d →
  ∀ Q : L2.St → Hp → Prop, (∀ σ', Adv K σ env σ' env' V H V H → Q σ' H) → t v σ H Q
def iNm (i : Nat) : TgF := fun env d => setV env i (.val d)
theorem sdg_name (i : Nat) : SdG K (gName i) (iNm i) := by
  intro env d env' e σ V H v ok r Q q
  exact q _ (adv_set (Adv.refl ok) e r fun p d l z => by cases z)
abbrev TgsF := Nv → List D → Option Nv
def SdGs (K : PySem.W.Frag) (t : TGs) (g : TgsF) : Prop := ∀ env ds env', g env ds = some env' → ∀ (σ : L2.St) (V H : Hp) (vs : List L2.V), NvOk K V H σ env → RA K V vs ds →
  ∀ Q : L2.St → Hp → Prop, (∀ σ', Adv K σ env σ' env' V H V H → Q σ' H) → t vs σ H Q
def iGN : TgsF := fun env ds => match ds with
  | [] => some env
  | _ => none
def iGC (g : TgF) (gs : TgsF) : TgsF := fun env ds => match ds with
  | [] => none
  | d :: ds => (g env d).bind fun e => gs e ds
theorem sdgs_nil : SdGs K gNil iGN := by
  intro env ds env' e σ V H vs ok r Q q
  cases r with
  | nil => cases e; exact ⟨rfl, q σ (Adv.refl ok)⟩
  | cons _ _ => cases e
theorem sdgs_cons {t : TG} {ts : TGs} {g : TgF} {gs : TgsF} (h1 : SdG K t g) (h2 : SdGs K ts gs) : SdGs K (gCons t ts) (iGC g gs) := by
  intro env ds env' e σ V H vs ok r Q q
  cases r with
  | nil => cases e
  | @cons v vs d ds ra rb =>
    simp only [iGC, Option.bind_eq_some_iff] at e
    obtain ⟨e1, k1, k2⟩ := e
    exact ⟨v, vs, rfl, h1 _ _ _ k1 σ V H v ok ra _ fun σ' a => h2 _ _ _ k2 σ' V H vs a.ok rb Q fun σ2 a2 => q σ2 (a.trans a2)⟩
def gBoth (K : PySem.W.Frag) (n : Nat) (t : TGs) : TG := fun v σ H Q => gTup K n t v σ H Q ∨ gLst K n t v σ H Q
def iGT (gs : TgsF) (n : Nat) : TgF := fun env d => match d with
  | .tuple ds => if ds.length = n then gs env ds else none
  | .list ds => if ds.length = n then gs env ds else none
  | _ => none
theorem sdg_tup {ts : TGs} {gs : TgsF} {n : Nat} (h : SdGs K ts gs) : SdG K (gBoth K n ts) (iGT gs n) := by
  intro env d env' e σ V H v ok r Q q
  cases d with
  | tuple ds =>
    simp only [iGT] at e
    split at e
    · rename_i hn
      cases r with
      | @tuple a xs _ hs ha => exact .inl ⟨a, xs, rfl, Evl.ex_t ok.sub hs, by rw [ha.len]; exact hn, h _ _ _ e σ V H xs ok ha Q q⟩
    · cases e
  | list ds =>
    simp only [iGT] at e
    split at e
    · rename_i hn
      cases r with
      | @list a xs _ hs ha => exact .inr ⟨a, xs, rfl, Evl.ex_l ok.sub hs, by rw [ha.len]; exact hn, h _ _ _ e σ V H xs ok ha Q q⟩
    · cases e
  | _ => cases e
theorem pg_both {X : Cx} {es : List Expr} {c n : Nat} {t : TGs} {pos : Pos} (hc : X.calm = true) (h : PGs X es t) (hn : (assignEach es X.env).length = n) (hst : (assignEach es X.env).findIdx? (·.1) = none) : PG X (.Tuple es c pos) (gBoth X.K n t) := by
  constructor
  intro pins s σ H v u Q I r hw
  rcases hw with hw | hw
  · exact (pg_tup hc h hn hst).run pins s σ H v u Q I r hw
  · exact (pg_lst hc h hn hst).run pins s σ H v u Q I r hw
/-- x = e: ow: the slot owns what is new -/
def iAsg (ow : Bool) (i : Nat) (f : EvF) : StF := fun env => (f env).bind fun p => match p.1 with
  | .val d => (setV p.2 i (.val d)).bind fun e => some (.next e)
  | .new d => (setV p.2 i (if ow then .own false d else .val d)).bind fun e => some (.next e)
  | .own _ => none
theorem sds_asg {ow : Bool} {i : Nat} {f : EvF} (ha : Sd K te f) : SdS K (tAsg te (gName i)) (iAsg ow i f) := by
  intro env fl e σ V H ok E q
  simp only [iAsg, Option.bind_eq_some_iff] at e
  obtain ⟨⟨r, e1⟩, h1, h2⟩ := e
  refine ha _ _ _ h1 σ V H ok _ fun v V' H' a k => ?_
  show E.nx (σ.set i (some v)) H'
  cases r with
  | val d =>
    simp only [Option.bind_eq_some_iff] at h2
    obtain ⟨e2, h3, h4⟩ := h2
    cases h4
    exact q _ V' H' (adv_set a h3 k fun p d l z => by cases z)
  | own j => cases h2
  | new d =>
    simp only [Option.bind_eq_some_iff] at h2
    obtain ⟨e2, h3, h4⟩ := h2
    cases h4
    obtain ⟨l, rfl, k1, k2, k3, k4⟩ := k
    cases ow with
    | true =>
      exact q _ V' H' (adv_set a h3 (show SlOk K V' H' (some (.ref l)) (.own false d) from ⟨l, rfl, k2, k4⟩) fun p d' l' z z2 => by
        cases z
        cases z2
        exact ⟨rfl, k1, k3⟩)
    | false =>
      obtain ⟨V2, a2, r2⟩ := a.show k1 k2 k3 k4
      exact q _ V2 H' (adv_set a2 h3 r2 fun p d l z => by cases z)
/-- target = e, the target a tuple of names -/
def iAsgT (g : TgF) (f : EvF) : StF := fun env => (opd f env).bind fun p => (vis p.1).bind fun d => (g p.2 d).bind fun e => some (.next e)
theorem sds_asgT {tg : TG} {g : TgF} {f : EvF} (hg : SdG K tg g) (ha : Sd K te f) : SdS K (tAsg te tg) (iAsgT g f) := by
  intro env fl e σ V H ok E q
  simp only [iAsgT, Option.bind_eq_some_iff] at e
  obtain ⟨⟨r, e1⟩, h1, d, h2, e2, h3, h4⟩ := e
  cases h4
  refine opd_snd ha h1 ok fun v V' H' a k => ?_
  have r0 : R K V' v d := by
    cases r with
    | val d' => cases h2; exact k
    | new d' => exact k.elim
    | own j => cases h2
  exact hg _ _ _ h3 σ V' H' v a.ok r0 _ fun σ' a2 => q _ _ _ (a.trans a2)
def iIfS (c : EvT) (f g : StF) : StF := fun env => (c env).bind fun p => if p.1 = true then f p.2 else g p.2
theorem sds_if {tc : TT} {c : EvT} (hc : SdT K tc c) (ha : SdS K t f) (hb : SdS K u g) : SdS K (tIfS tc t u) (iIfS c f g) := by
  intro env fl e σ V H ok E q
  simp only [iIfS, Option.bind_eq_some_iff] at e
  obtain ⟨⟨b, e1⟩, h1, h2⟩ := e
  refine hc _ _ _ h1 σ V H ok _ fun V' H' a => ?_
  cases b with
  | true =>
    rw [if_pos rfl]
    rw [if_pos rfl] at h2
    exact ha _ _ h2 σ V' H' a.ok E (q.of a)
  | false =>
    rw [if_neg Bool.false_ne_true]
    rw [if_neg Bool.false_ne_true] at h2
    exact hb _ _ h2 σ V' H' a.ok E (q.of a)
def iRet (f : EvF) : StF := fun env => (f env).bind fun p => match p.1 with
  | .val d => some (.ret (.val d) p.2)
  | .new d => some (.ret (.new d) p.2)
  | .own i => match p.2[i]? with
    | some (.own false d) => some (.ret (.new d) (p.2.set i .no))
    | _ => none
theorem sds_ret {f : EvF} (ha : Sd K te f) : SdS K (tRet te) (iRet f) := by
  intro env fl e σ V H ok E q
  simp only [iRet, Option.bind_eq_some_iff] at e
  obtain ⟨⟨r, e1⟩, h1, h2⟩ := e
  refine ha _ _ _ h1 σ V H ok _ fun v V' H' a k => ?_
  cases r with
  | val d => cases h2; exact q v σ V' H' a k
  | new d => cases h2; exact q v σ V' H' a k
  | own i =>
    have h2' : (match e1[i]? with
      | some (.own false d) => some (Fl.ret (.new d) (e1.set i .no))
      | _ => none) = some fl := h2
    cases hs : e1[i]? with
    | none => rw [hs] at h2'; cases h2'
    | some s =>
      rw [hs] at h2'
      cases s with
      | no => cases h2'
      | val _ => cases h2'
      | own p d =>
        cases p with
        | true => cases h2'
        | false =>
          cases h2'
          obtain ⟨l, g1, g2, g3⟩ := a.ok.ownC hs
          have kv : σ[i]? = some (some v) := k.1
          rw [g1] at kv
          cases kv
          have ol : OwnL e1 σ l := ⟨i, d, hs, g1⟩
          have hi := (List.getElem?_eq_some_iff.mp hs).1
          refine q _ σ V' H' (adv_no a hs fun d z => by cases z) ⟨l, rfl, (a.ownL l ol).elim .inr .inl, g2, ?_, g3⟩
          rintro ⟨j, p, d', z1, z2⟩
          by_cases qj : j = i
          · subst qj
            rw [List.getElem?_set_self hi] at z1
            cases z1
          · rw [List.getElem?_set_ne (fun z => qj z.symm)] at z1
            exact qj (a.ok.one j i p false d' d l z1 hs z2 g1)
def iRetN : StF := fun env => some (.ret (.val .none) env)
theorem sds_retN : SdS K tRetN iRetN := by
  intro env fl e σ V H ok E q
  cases e
  exact q .non σ V H (Adv.refl ok) .none
def iDrop (f : EvF) : StF := fun env => (f env).bind fun p => some (.next p.2)
theorem sds_drop {f : EvF} (ha : Sd K te f) : SdS K (tDrop te) (iDrop f) := by
  intro env fl e σ V H ok E q
  simp only [iDrop, Option.bind_eq_some_iff] at e
  obtain ⟨⟨r, e1⟩, h1, h2⟩ := e
  cases h2
  exact ha _ _ _ h1 σ V H ok _ fun v V' H' a k => q σ V' H' a
def iBrk : StF := fun env => some (.brk env)
def iCont : StF := fun env => some (.cont env)
theorem sds_brk : SdS K tBreak iBrk := by
  intro env fl e σ V H ok E q
  cases e
  exact q σ V H (Adv.refl ok)
theorem sds_cont : SdS K tCont iCont := by
  intro env fl e σ V H ok E q
  cases e
  exact q σ V H (Adv.refl ok)
/-- x op= e on ints -/
def iAug (i : Nat) (h : Int → Int → Int) (f : EvF) : StF := fun env => match env[i]? with
  | some (.val (.int a)) => (f env).bind fun p => match p.1 with
    | .val (.int b) => (setV p.2 i (.val (.int (h a b)))).bind fun e => some (.next e)
    | _ => none
  | _ => none
theorem sds_aug {i : Nat} {h : Int → Int → Int} {f : EvF} (ha : Sd K te f) : SdS K (tAug i te (ipI h)) (iAug i h f) := by
  intro env fl e σ V H ok E q
  unfold iAug at e
  split at e
  · rename_i x hx
    obtain ⟨w, hw, rw0⟩ := ok.val hx
    cases rw0
    refine ⟨_, hw, ?_⟩
    simp only [Option.bind_eq_some_iff] at e
    obtain ⟨⟨r, e1⟩, h1, h2⟩ := e
    refine ha _ _ _ h1 σ V H ok _ fun v V' H' a k => ?_
    split at h2
    · rename_i b hb
      have hb' : r = .val (.int b) := hb
      subst hb'
      cases k
      simp only [Option.bind_eq_some_iff] at h2
      obtain ⟨e2, h3, h4⟩ := h2
      cases h4
      exact ⟨_, _, rfl, rfl, q _ V' H' (adv_set a h3 (show SlOk K V' H' (some (.int (h x b))) (.val (.int (h x b))) from R.int _) fun p d l z => by cases z)⟩
    · cases h2
  · cases e

/-! ### loops -/
def floop (tg : TgF) (body : StF) : List D → Nv → Option Fl
  | [], env => some (.next env)
  | d :: ds, env => (tg env d).bind fun e1 => match body e1 with
    | some (.next e2) => floop tg body ds e2
    | some (.cont e2) => floop tg body ds e2
    | some (.brk e2) => some (.next e2)
    | some (.ret r e2) => some (.ret r e2)
    | none => none
/-- what a loop walks: the items are visible -/
def Mk (K : PySem.W.Frag) (J : It) (σ : L2.St) (V H : Hp) (ds : List D) : Prop :=
  ∀ (g : TG) (tb : TS) (E : Ends) (Pv : Nat → L2.St → Hp → Hp → Prop), Pv 0 σ V H → (∀ i σ1 V1 H1, Pv i σ1 V1 H1 → Ex V V1 ∧ Ex V1 H1) →
    (∀ i d σ1 V1 H1, ds[i]? = some d → Pv i σ1 V1 H1 → ∀ x V2 H2, Al V1 H1 V2 H2 → R K V2 x d →
      g x σ1 H2 fun σ2 H2 => tb { E with nx := fun σ' H' => ∃ V', Pv (i + 1) σ' V' H', ct := fun σ' H' => ∃ V', Pv (i + 1) σ' V' H', bk := E.nx } σ2 H2) →
    (∀ σ1 V1 H1, Pv ds.length σ1 V1 H1 → E.nx σ1 H1) →
    ∃ W : Nat → Nat → L2.St → Hp → Prop, (∃ m, W 0 m σ H) ∧ ∀ i m σ H, W i m σ H →
      (J.stop i H ∧ E.nx σ H) ∨ (J.go i H ∧ ∃ N : L2.St → Hp → Prop, (∀ σ' H', N σ' H' → ∃ m', m' < m ∧ W (i + 1) m' σ' H') ∧ ∀ x H', J.yld i H x H' → g x σ H' fun σ2 H2 => tb { E with nx := N, ct := N, bk := E.nx } σ2 H2)
/-- .. in a comprehension -/
def MkC (K : PySem.W.Frag) (J : It) (σ : L2.St) (V H : Hp) (ds : List D) : Prop :=
  ∀ (g : TG) (tt : TT) (te : TE) (vs : List Nat) (Dl : Addr) (Pv : Nat → Hp → Hp → Prop) (Qd : Hp → Prop), Pv 0 V (upd H Dl (.lst [])) → (∀ i V1 H1, Pv i V1 H1 → Ex V V1 ∧ Ex V1 H1) →
    (∀ i d V1 H1, ds[i]? = some d → Pv i V1 H1 → ∀ x V2 H2, Al V1 H1 V2 H2 → R K V2 x d → g x (wipe σ vs) H2 fun σ2 H2 => wipe σ2 vs = wipe σ vs ∧ tt σ2 H2 fun b H3 =>
      if b = true then te σ2 H3 fun y H4 => ∃ acc, H4 Dl = some (.lst acc) ∧ acc.length < sizeLine ∧ ∃ V', Pv (i + 1) V' (upd H4 Dl (.lst (acc ++ [y]))) else ∃ V', Pv (i + 1) V' H3) →
    (∀ V1 H1, Pv ds.length V1 H1 → Qd H1) →
    ∃ W : Nat → Nat → Hp → Prop, (∃ m, W 0 m (upd H Dl (.lst []))) ∧ ∀ i m H, W i m H →
      (J.stop i H ∧ Qd H) ∨ (J.go i H ∧ ∃ Nx : Hp → Prop, (∀ H', Nx H' → ∃ m', m' < m ∧ W (i + 1) m' H') ∧ ∀ x H', J.yld i H x H' → g x (wipe σ vs) H' fun σ2 H2 => wipe σ2 vs = wipe σ vs ∧ tt σ2 H2 fun b H3 =>
        if b = true then te σ2 H3 fun y H4 => ∃ acc, H4 Dl = some (.lst acc) ∧ acc.length < sizeLine ∧ Nx (upd H4 Dl (.lst (acc ++ [y]))) else Nx H3)
abbrev ItF := Nv → Option (List D × Nv)
def SdI (K : PySem.W.Frag) (wi : TI) (f : ItF) : Prop := ∀ env ds env', f env = some (ds, env') → ∀ (σ : L2.St) (V H : Hp), NvOk K V H σ env →
  ∀ Rr : It → Hp → Prop, (∀ J V' H', Adv K σ env σ env' V H V' H' → Mk K J σ V' H' ds ∧ MkC K J σ V' H' ds → Rr J H') → wi σ H Rr
def iFor (it : ItF) (g : TgF) (body : StF) : StF := fun env => (it env).bind fun p => floop g body p.1 p.2
theorem sds_for {wi : TI} {it : ItF} {tg : TG} {gt : TgF} {tb : TS} {body : StF} (hi : SdI K wi it) (hg : SdG K tg gt) (hb : SdS K tb body) : SdS K (tFor wi tg tb) (iFor it gt body) := by
  intro env fl e σ V H ok E q
  simp only [iFor, Option.bind_eq_some_iff] at e
  obtain ⟨⟨ds, e1⟩, h1, h2⟩ := e
  refine hi _ _ _ h1 σ V H ok _ fun J V' H' a mk => ?_
  have q' := q.of a
  replace mk := mk.1
  refine mk tg tb E (fun i σ1 V1 H1 => ∃ env', Adv K σ e1 σ1 env' V' H' V1 H1 ∧ floop gt body (ds.drop i) env' = some fl) ⟨e1, Adv.refl a.ok, h2⟩ (fun i σ1 V1 H1 ⟨env', b, _⟩ => ⟨b.ex, b.ok.sub⟩) ?_ ?_
  · intro i d σ1 V1 H1 hd ⟨env', b, hf⟩ x V2 H2 al r
    have e0 : ds.drop i = d :: ds.drop (i + 1) := by
      obtain ⟨hlt, rfl⟩ := List.getElem?_eq_some_iff.mp hd
      exact List.drop_eq_getElem_cons hlt
    rw [e0] at hf
    have b2 := b.trans (al.adv b.ok)
    simp only [floop, Option.bind_eq_some_iff] at hf
    obtain ⟨e2, g1, g2⟩ := hf
    refine hg _ _ _ g1 σ1 V2 H2 x b2.ok r _ fun σ2 a2 => ?_
    have a3 := b2.trans a2
    cases hbo : body e2 with
    | none => rw [hbo] at g2; cases g2
    | some fl1 =>
      rw [hbo] at g2
      refine hb _ _ hbo σ2 V2 H2 a3.ok _ ?_
      cases fl1 with
      | next e3 => exact fun σ' V' H' c => ⟨V', e3, a3.trans c, g2⟩
      | cont e3 => exact fun σ' V' H' c => ⟨V', e3, a3.trans c, g2⟩
      | brk e3 => cases g2; exact fun σ' V' H' c => q' σ' V' H' (a3.trans c)
      | ret r2 e3 => cases g2; exact fun v σ' V' H' c k => q' v σ' V' H' (a3.trans c) (k.trans2 a3)
  · intro σ1 V1 H1 ⟨env', b, hf⟩
    rw [List.drop_length] at hf
    cases hf
    exact q' σ1 V1 H1 b
theorem mk_list {a : Addr} {xs : List L2.V} {ds : List D} (hs : SqL K V a xs) (r : RA K V xs ds) : Mk K (Itl K a) σ V H ds := by
  intro g tb E Pv h0 hx hi hd
  refine for_list (xs := xs) (fun i σ1 H1 => ∃ V1, Pv i σ1 V1 H1) ⟨V, h0⟩ (fun i σ1 H1 _ ⟨V1, p⟩ => ?_) (fun i x σ1 H1 hxi ⟨V1, p⟩ => ?_) (fun σ1 H1 ⟨V1, p⟩ => ?_)
  · obtain ⟨p1, p2⟩ := hx i σ1 V1 H1 p
    exact Evl.ex_l (p1.trans p2) hs
  · obtain ⟨p1, p2⟩ := hx i σ1 V1 H1 p
    obtain ⟨d, hdi, rd⟩ := r.getV hxi
    exact hi i d σ1 V1 H1 hdi p x V1 H1 (Al.refl p2) (R.mono p1 _ _ rd)
  · rw [r.len] at p
    exact hd σ1 V1 H1 p
theorem mk_tup {a : Addr} {xs : List L2.V} {ds : List D} (hs : SqT K V a xs) (r : RA K V xs ds) : Mk K (Itt K a) σ V H ds := by
  intro g tb E Pv h0 hx hi hd
  refine for_tup (xs := xs) (fun i σ1 H1 => ∃ V1, Pv i σ1 V1 H1) ⟨V, h0⟩ (fun i σ1 H1 _ ⟨V1, p⟩ => ?_) (fun i x σ1 H1 hxi ⟨V1, p⟩ => ?_) (fun σ1 H1 ⟨V1, p⟩ => ?_)
  · obtain ⟨p1, p2⟩ := hx i σ1 V1 H1 p
    exact Evl.ex_t (p1.trans p2) hs
  · obtain ⟨p1, p2⟩ := hx i σ1 V1 H1 p
    obtain ⟨d, hdi, rd⟩ := r.getV hxi
    exact hi i d σ1 V1 H1 hdi p x V1 H1 (Al.refl p2) (R.mono p1 _ _ rd)
  · rw [r.len] at p
    exact hd σ1 V1 H1 p
theorem mkc_list {a : Addr} {xs : List L2.V} {ds : List D} (hs : SqL K V a xs) (r : RA K V xs ds) : MkC K (Itl K a) σ V H ds := by
  intro g tt te vs Dl Pv Qd h0 hx hi hd
  refine lc_list (xs := xs) (fun i H1 => ∃ V1, Pv i V1 H1) ⟨V, h0⟩ (fun i H1 _ ⟨V1, p⟩ => ?_) (fun i x H1 hxi ⟨V1, p⟩ => ?_) (fun H1 ⟨V1, p⟩ => ?_)
  · obtain ⟨p1, p2⟩ := hx i V1 H1 p
    exact Evl.ex_l (p1.trans p2) hs
  · obtain ⟨p1, p2⟩ := hx i V1 H1 p
    obtain ⟨d, hdi, rd⟩ := r.getV hxi
    exact hi i d V1 H1 hdi p x V1 H1 (Al.refl p2) (R.mono p1 _ _ rd)
  · rw [r.len] at p
    exact hd V1 H1 p
theorem mkc_tup {a : Addr} {xs : List L2.V} {ds : List D} (hs : SqT K V a xs) (r : RA K V xs ds) : MkC K (Itt K a) σ V H ds := by
  intro g tt te vs Dl Pv Qd h0 hx hi hd
  refine lc_tup (xs := xs) (fun i H1 => ∃ V1, Pv i V1 H1) ⟨V, h0⟩ (fun i H1 _ ⟨V1, p⟩ => ?_) (fun i x H1 hxi ⟨V1, p⟩ => ?_) (fun H1 ⟨V1, p⟩ => ?_)
  · obtain ⟨p1, p2⟩ := hx i V1 H1 p
    exact Evl.ex_t (p1.trans p2) hs
  · obtain ⟨p1, p2⟩ := hx i V1 H1 p
    obtain ⟨d, hdi, rd⟩ := r.getV hxi
    exact hi i d V1 H1 hdi p x V1 H1 (Al.refl p2) (R.mono p1 _ _ rd)
  · rw [r.len] at p
    exact hd V1 H1 p
def rngD (lo : Int) (n : Nat) : List D := (List.range n).map fun (k : Nat) => D.int (lo + (k : Int))
theorem rngD_len (lo : Int) (n : Nat) : (rngD lo n).length = n := by unfold rngD; rw [List.length_map, List.length_range]
theorem rngD_get {lo : Int} {n i : Nat} (h : i < n) : (rngD lo n)[i]? = some (.int (lo + (i : Int))) := by
  unfold rngD
  rw [List.getElem?_map, List.getElem?_range h]
  rfl
theorem mk_rng {lo : Int} {n : Nat} : Mk K (Itr lo n) σ V H (rngD lo n) := by
  intro g tb E Pv h0 hx hi hd
  refine for_range (lo := lo) (n := n) (fun i σ1 H1 => ∃ V1, Pv i σ1 V1 H1) ⟨V, h0⟩ (fun i σ1 H1 hin ⟨V1, p⟩ => ?_) (fun σ1 H1 ⟨V1, p⟩ => ?_)
  · obtain ⟨p1, p2⟩ := hx i σ1 V1 H1 p
    exact hi i _ σ1 V1 H1 (rngD_get hin) p _ V1 H1 (Al.refl p2) (R.int _)
  · rw [rngD_len] at hd
    exact hd σ1 V1 H1 p
theorem mkc_rng {lo : Int} {n : Nat} : MkC K (Itr lo n) σ V H (rngD lo n) := by
  intro g tt te vs Dl Pv Qd h0 hx hi hd
  refine lc_range (lo := lo) (n := n) (fun i H1 => ∃ V1, Pv i V1 H1) ⟨V, h0⟩ (fun i H1 hin ⟨V1, p⟩ => ?_) (fun H1 ⟨V1, p⟩ => ?_)
  · obtain ⟨p1, p2⟩ := hx i V1 H1 p
    exact hi i _ V1 H1 (rngD_get hin) p _ V1 H1 (Al.refl p2) (R.int _)
  · rw [rngD_len] at hd
    exact hd V1 H1 p
/-- a list or a tuple -/
def iOr2 (w1 w2 : TI) : TI := fun σ H R => w1 σ H R ∨ w2 σ H R
def iSeqI (f : EvF) : ItF := fun env => (opd f env).bind fun p => (vis p.1).bind fun d => match d with
  | .list ds => some (ds, p.2)
  | .tuple ds => some (ds, p.2)
  | _ => none
/-- a list or a tuple, whichever it is: the reading -/
def iSq (K : PySem.W.Frag) (tl : TE) : TI := fun σ H R => tl σ H fun x H1 => ∃ a, x = .ref a ∧ (((∃ xs, SqL K H1 a xs) ∧ R (Itl K a) H1) ∨ ((∃ xs, SqT K H1 a xs) ∧ R (Itt K a) H1))
theorem sdi_seq {f : EvF} (ha : Sd K te f) : SdI K (iSq K te) (iSeqI f) := by
  intro env ds env' e σ V H ok Rr q
  simp only [iSeqI, Option.bind_eq_some_iff] at e
  obtain ⟨⟨r, e1⟩, h1, d, h2, h3⟩ := e
  refine opd_snd ha h1 ok fun v V' H' a k => ?_
  have r0 : R K V' v d := by
    cases r with
    | val d' => cases h2; exact k
    | new d' => exact k.elim
    | own j => cases h2
  cases d with
  | list es =>
    cases h3
    cases r0 with
    | @list p xs _ hs hr => exact ⟨p, rfl, .inl ⟨⟨xs, Evl.ex_l a.ok.sub hs⟩, q _ V' H' a ⟨mk_list hs hr, mkc_list hs hr⟩⟩⟩
  | tuple es =>
    cases h3
    cases r0 with
    | @tuple p xs _ hs hr => exact ⟨p, rfl, .inr ⟨⟨xs, Evl.ex_t a.ok.sub hs⟩, q _ V' H' a ⟨mk_tup hs hr, mkc_tup hs hr⟩⟩⟩
  | _ => cases h3
def smR (n : Int) : Bool := decide (-1000000000 ≤ n) && decide (n ≤ 1000000000)
theorem smR_in {n : Int} (h : smR n = true) : -(2 ^ 62) ≤ n ∧ n < 2 ^ 62 := by
  simp only [smR, Bool.and_eq_true, decide_eq_true_eq] at h
  omega
def iR1 (fs : EvA) : ItF := fun env => (fs env).bind fun p => match p.1 with
  | [.val (.int n)] => if smR n = true then some (rngD 0 n.toNat, p.2) else none
  | _ => none
theorem sdi_r1 {t : TA} {fs : EvA} (ha : SdA K t fs) : SdI K (iRng1 t) (iR1 fs) := by
  intro env ds env' e σ V H ok Rr q
  simp only [iR1, Option.bind_eq_some_iff] at e
  obtain ⟨⟨r, e1⟩, h1, h3⟩ := e
  refine ha _ _ _ h1 σ V H ok _ fun vs V' H' a k => ?_
  split at h3
  · rename_i n hn
    have hn' : r = [.val (.int n)] := hn
    subst hn'
    split at h3
    · rename_i hb
      cases h3
      cases k with
      | cons k1 k2 =>
        cases k1
        cases k2
        exact ⟨n, rfl, (smR_in hb).1, (smR_in hb).2, q _ V' H' a ⟨mk_rng, mkc_rng⟩⟩
    · cases h3
  · cases h3
def iR2 (fs : EvA) : ItF := fun env => (fs env).bind fun p => match p.1 with
  | [.val (.int m), .val (.int n)] => if smR m = true ∧ smR n = true then some (rngD m (n - m).toNat, p.2) else none
  | _ => none
theorem sdi_r2 {t : TA} {fs : EvA} (ha : SdA K t fs) : SdI K (iRng2 t) (iR2 fs) := by
  intro env ds env' e σ V H ok Rr q
  simp only [iR2, Option.bind_eq_some_iff] at e
  obtain ⟨⟨r, e1⟩, h1, h3⟩ := e
  refine ha _ _ _ h1 σ V H ok _ fun vs V' H' a k => ?_
  split at h3
  · rename_i m n hn
    have hn' : r = [.val (.int m), .val (.int n)] := hn
    subst hn'
    split at h3
    · rename_i hb
      cases h3
      cases k with
      | cons k1 k2 =>
        cases k1
        cases k2 with
        | cons k2 k3 =>
          cases k2
          cases k3
          exact ⟨m, n, rfl, ⟨(smR_in hb.1).1, (smR_in hb.1).2, (smR_in hb.2).1, (smR_in hb.2).2⟩, q _ V' H' a ⟨mk_rng, mkc_rng⟩⟩
    · cases h3
  · cases h3
/-- while, at most n turns -/
def wloop (c : EvT) (body : StF) : Nat → StF
  | 0, _ => none
  | n + 1, env => (c env).bind fun p => if p.1 = true then match body p.2 with
      | some (.next e2) => wloop c body n e2
      | some (.cont e2) => wloop c body n e2
      | some (.brk e2) => some (.next e2)
      | some (.ret r e2) => some (.ret r e2)
      | none => none
    else some (.next p.2)
theorem sds_while {tc : TT} {tb : TS} {c : EvT} {body : StF} (n : Nat) (hc : SdT K tc c) (hb : SdS K tb body) : SdS K (tWhile tc tb) (wloop c body n) := by
  intro env fl e σ V H ok E q
  refine ⟨fun m σ1 H1 => ∃ env1 V1, Adv K σ env σ1 env1 V H V1 H1 ∧ wloop c body m env1 = some fl, ⟨n, env, V, Adv.refl ok, e⟩, fun m σ1 H1 ⟨env1, V1, a, hw⟩ => ?_⟩
  cases m with
  | zero => cases hw
  | succ m =>
    simp only [wloop, Option.bind_eq_some_iff] at hw
    obtain ⟨⟨b, e2⟩, h1, h2⟩ := hw
    refine hc _ _ _ h1 σ1 V1 H1 a.ok _ fun V2 H2 a2 => ?_
    have a3 := a.trans a2
    cases b with
    | false =>
      rw [if_neg Bool.false_ne_true]
      rw [if_neg Bool.false_ne_true] at h2
      cases h2
      exact q σ1 V2 H2 a3
    | true =>
      rw [if_pos rfl]
      rw [if_pos rfl] at h2
      refine ⟨fun σ' H' => ∃ env1 V1, Adv K σ env σ' env1 V H V1 H' ∧ wloop c body m env1 = some fl, fun σ' H' ⟨e', V', b', w'⟩ => ⟨m, Nat.lt_succ_self m, e', V', b', w'⟩, ?_⟩
      cases hbo : body e2 with
      | none =>
        have h2' : (match body e2 with
          | some (.next e2) => wloop c body m e2
          | some (.cont e2) => wloop c body m e2
          | some (.brk e2) => some (.next e2)
          | some (.ret r e2) => some (.ret r e2)
          | none => none) = some fl := h2
        rw [hbo] at h2'; cases h2'
      | some fl1 =>
        have h2' : (match body e2 with
          | some (.next e2) => wloop c body m e2
          | some (.cont e2) => wloop c body m e2
          | some (.brk e2) => some (.next e2)
          | some (.ret r e2) => some (.ret r e2)
          | none => none) = some fl := h2
        rw [hbo] at h2'
        refine hb _ _ hbo σ1 V2 H2 a3.ok _ ?_
        cases fl1 with
        | next e3 => exact fun σ' V' H' c => ⟨e3, V', a3.trans c, h2'⟩
        | cont e3 => exact fun σ' V' H' c => ⟨e3, V', a3.trans c, h2'⟩
        | brk e3 => cases h2'; exact fun σ' V' H' c => q σ' V' H' (a3.trans c)
        | ret r2 e3 => cases h2'; exact fun v σ' V' H' c k => q v σ' V' H' (a3.trans c) (k.trans2 a3)
end
end DL

namespace DL
open PySem PySem.Spec PyProof.Rows L2
open Evl (Ex)

/-! ### defs and calls -/
abbrev Fn := List Sl → Option (Res × List Sl)
/-- what a def of this meaning promises -/
def spF (K : PySem.W.Frag) (n : Nat) (g : Fn) : Sp := fun vs H Q _ => vs.length = n ∧ ∃ V sls r sls', NvOk K V H (vs.map some) sls ∧ g sls = some (r, sls') ∧
  ∀ v V' H', Adv K (vs.map some) sls (vs.map some) sls' V H V' H' → ROk K (vs.map some) sls H V' H' (vs.map some) sls' v r → Q v H'

def slsOf (env : Nv) : List Res → Option (List Sl)
  | [] => some []
  | .val d :: rs => (slsOf env rs).bind fun ss => some (.val d :: ss)
  | .new d :: rs => none
  | .own i :: rs => (look env (.own i)).bind fun d => (slsOf env rs).bind fun ss => some (.own true d :: ss)
def has (i : Nat) : List Res → Bool
  | [] => false
  | .own j :: rs => j == i || has i rs
  | _ :: rs => has i rs
def dupFree : List Res → Bool
  | [] => true
  | .own j :: rs => !has j rs && dupFree rs
  | _ :: rs => dupFree rs
/-- what slot i holds behind the call -/
def back1 (i : Nat) : List Res → List Sl → Option D
  | .own j :: rs, .own _ d :: ss => if j = i then some d else back1 i rs ss
  | _ :: rs, _ :: ss => back1 i rs ss
  | _, _ => none
def backS (rs : List Res) (ss : List Sl) (i : Nat) : Sl → Sl
  | .own p d => match back1 i rs ss with
    | some d' => .own p d'
    | none => .own p d
  | s => s
def backGo (rs : List Res) (ss : List Sl) : Nat → Nv → Nv
  | _, [] => []
  | i, s :: env => backS rs ss i s :: backGo rs ss (i + 1) env
def back (rs : List Res) (ss : List Sl) (env : Nv) : Nv := backGo rs ss 0 env
theorem backGo_len {rs : List Res} {ss : List Sl} : ∀ {env : Nv} {i : Nat}, (backGo rs ss i env).length = env.length
  | [], _ => rfl
  | s :: env, i => by
    show (backGo rs ss (i + 1) env).length + 1 = env.length + 1
    rw [backGo_len]
theorem backGo_at {rs : List Res} {ss : List Sl} : ∀ {env : Nv} {i j : Nat}, (backGo rs ss i env)[j]? = (env[j]?).map (backS rs ss (i + j))
  | [], _, _ => rfl
  | s :: env, i, 0 => rfl
  | s :: env, i, j + 1 => by
    show (backGo rs ss (i + 1) env)[j]? = (env[j]?).map (backS rs ss (i + (j + 1)))
    rw [backGo_at, show i + 1 + j = i + (j + 1) by omega]
def notOwnR : Res → Bool
  | .own _ => false
  | _ => true
def iCall (g : Fn) (fs : EvA) : EvF := fun env => (fs env).bind fun p => (slsOf p.2 p.1).bind fun ss => if dupFree p.1 = true then
    (g ss).bind fun q => if notOwnR q.1 = true then some (q.1, back p.1 q.2 p.2) else none else none

section
variable {K : PySem.W.Frag} {σ σ1 σ2 : L2.St} {env env1 env2 : Nv} {V H V1 H1 V2 H2 : Hp} {v : L2.V} {te ta tb : TE}
theorem sls_len : ∀ {rs : List Res} {ss : List Sl}, slsOf env rs = some ss → ss.length = rs.length
  | [], ss, h => by cases h; rfl
  | .val d :: rs, ss, h => by
    simp only [slsOf, Option.bind_eq_some_iff] at h
    obtain ⟨s1, h1, h2⟩ := h
    cases h2
    rw [List.length_cons, List.length_cons, sls_len h1]
  | .new d :: rs, ss, h => by cases h
  | .own i :: rs, ss, h => by
    simp only [slsOf, Option.bind_eq_some_iff] at h
    obtain ⟨d, h0, s1, h1, h2⟩ := h
    cases h2
    rw [List.length_cons, List.length_cons, sls_len h1]
theorem look_own {i : Nat} {d : D} (h : look env (.own i) = some d) : ∃ p, env[i]? = some (.own p d) := by
  have h' : (match env[i]? with
    | some (.own _ d) => some d
    | _ => none) = some d := h
  cases q : env[i]? with
  | none => rw [q] at h'; cases h'
  | some s =>
    rw [q] at h'
    cases s with
    | no => cases h'
    | val _ => cases h'
    | own p d' => cases h'; exact ⟨p, rfl⟩
theorem heldA_len {vs : List L2.V} {rs : List Res} (h : HeldA K V σ vs rs) : vs.length = rs.length := by
  induction h with
  | nil => rfl
  | cons _ _ ih => rw [List.length_cons, List.length_cons, ih]
/-- the arguments one by one -/
theorem args_at {vs : List L2.V} {rs : List Res} (h : HeldA K V σ vs rs) : ∀ {ss : List Sl}, slsOf env rs = some ss → ∀ (k : Nat) (s : Sl), ss[k]? = some s →
    ∃ x, vs[k]? = some x ∧ ((∃ d, s = .val d ∧ R K V x d) ∨ ∃ i d p, s = .own true d ∧ rs[k]? = some (.own i) ∧ σ[i]? = some (some x) ∧ env[i]? = some (.own p d)) := by
  induction h with
  | nil => intro ss e k s hs; cases e; simp at hs
  | @cons x r vs rs h0 hr ih =>
    intro ss e k s hs
    cases r with
    | val d =>
      simp only [slsOf, Option.bind_eq_some_iff] at e
      obtain ⟨s1, h1, h2⟩ := e
      cases h2
      cases k with
      | zero => cases hs; exact ⟨x, rfl, .inl ⟨d, rfl, h0⟩⟩
      | succ k => exact ih h1 k s hs
    | new d => cases e
    | own i =>
      simp only [slsOf, Option.bind_eq_some_iff] at e
      obtain ⟨d, h3, s1, h1, h2⟩ := e
      cases h2
      cases k with
      | zero =>
        cases hs
        obtain ⟨p, hp⟩ := look_own h3
        exact ⟨x, rfl, .inr ⟨i, d, p, rfl, rfl, h0, hp⟩⟩
      | succ k => exact ih h1 k s hs
theorem args_own : ∀ {rs : List Res} {ss : List Sl} {k i : Nat}, slsOf env rs = some ss → rs[k]? = some (.own i) → ∃ d, ss[k]? = some (.own true d)
  | [], _, _, _, _, h => by simp at h
  | .val d :: rs, ss, k, i, e, h => by
    simp only [slsOf, Option.bind_eq_some_iff] at e
    obtain ⟨s1, h1, h2⟩ := e
    cases h2
    cases k with
    | zero => cases Option.some.inj h
    | succ k => exact args_own (rs := rs) (k := k) h1 h
  | .new d :: rs, ss, k, i, e, h => by cases e
  | .own j :: rs, ss, k, i, e, h => by
    simp only [slsOf, Option.bind_eq_some_iff] at e
    obtain ⟨d, h3, s1, h1, h2⟩ := e
    cases h2
    cases k with
    | zero => exact ⟨d, rfl⟩
    | succ k => exact args_own (rs := rs) (k := k) h1 h
theorem has_of {i : Nat} : ∀ {rs : List Res} {k : Nat}, rs[k]? = some (.own i) → has i rs = true
  | [], _, h => by simp at h
  | r :: rs, 0, h => by
    cases Option.some.inj h
    simp [has]
  | r :: rs, k + 1, h => by
    have q := has_of (rs := rs) (k := k) h
    cases r <;> simp [has, q]
theorem dup_free : ∀ {rs : List Res} {j k i : Nat}, dupFree rs = true → rs[j]? = some (.own i) → rs[k]? = some (.own i) → j = k
  | [], _, _, _, _, h, _ => by simp at h
  | r :: rs, 0, 0, _, _, _, _ => rfl
  | r :: rs, 0, k + 1, i, d, h1, h2 => by
    cases Option.some.inj h1
    simp only [dupFree, Bool.and_eq_true, Bool.not_eq_true'] at d
    rw [has_of (rs := rs) (k := k) h2] at d
    exact absurd d.1 (by decide)
  | r :: rs, j + 1, 0, i, d, h1, h2 => by
    cases Option.some.inj h2
    simp only [dupFree, Bool.and_eq_true, Bool.not_eq_true'] at d
    rw [has_of (rs := rs) (k := j) h1] at d
    exact absurd d.1 (by decide)
  | r :: rs, j + 1, k + 1, i, d, h1, h2 => by
    have d' : dupFree rs = true := by
      cases r with
      | own _ => simp only [dupFree, Bool.and_eq_true] at d; exact d.2
      | val _ => exact d
      | new _ => exact d
    rw [dup_free (rs := rs) (j := j) (k := k) d' h1 h2]
theorem back1_some : ∀ {i : Nat} {rs : List Res} {ss : List Sl} {d : D}, back1 i rs ss = some d → ∃ (k : Nat) (p : Bool), rs[k]? = some (.own i) ∧ ss[k]? = some (.own p d)
  | _, [], _, _, h => by simp [back1] at h
  | _, r :: _, [], _, h => by cases r <;> simp [back1] at h
  | i, r :: rs, s :: ss, d, h => by
    have rec' : back1 i rs ss = some d → ∃ (k : Nat) (p : Bool), (r :: rs)[k]? = some (.own i) ∧ (s :: ss)[k]? = some (.own p d) := fun h => by
      obtain ⟨k, p, h1, h2⟩ := back1_some (rs := rs) (ss := ss) h
      exact ⟨k + 1, p, h1, h2⟩
    cases r with
    | val _ => exact rec' h
    | new _ => exact rec' h
    | own j =>
      cases s with
      | no => exact rec' h
      | val _ => exact rec' h
      | own p d' =>
        simp only [back1] at h
        split at h
        · rename_i q
          subst q
          cases h
          exact ⟨0, p, rfl, rfl⟩
        · exact rec' h
theorem back1_none : ∀ {i k : Nat} {rs : List Res} {ss : List Sl} {p : Bool} {d : D}, back1 i rs ss = none → rs[k]? = some (.own i) → ss[k]? = some (.own p d) → False
  | _, _, [], _, _, _, _, h, _ => by simp at h
  | _, _, _ :: _, [], _, _, _, _, h => by simp at h
  | i, 0, r :: rs, s :: ss, p, d, h, h1, h2 => by
    cases Option.some.inj h1
    cases Option.some.inj h2
    simp [back1] at h
  | i, k + 1, r :: rs, s :: ss, p, d, h, h1, h2 => by
    have h' : back1 i rs ss = none := by
      cases r with
      | val _ => exact h
      | new _ => exact h
      | own j =>
        cases s with
        | no => exact h
        | val _ => exact h
        | own p d' =>
          simp only [back1] at h
          split at h
          · cases h
          · exact h
    exact back1_none (rs := rs) (ss := ss) (k := k) h' h1 h2
theorem back_at {rs : List Res} {ss : List Sl} {i : Nat} : (back rs ss env)[i]? = (env[i]?).map (backS rs ss i) := by
  unfold back
  rw [backGo_at, Nat.zero_add]
theorem back_own {rs : List Res} {ss : List Sl} {i : Nat} {p : Bool} {d : D} (h : (back rs ss env)[i]? = some (.own p d)) : ∃ d0, env[i]? = some (.own p d0) ∧ (back1 i rs ss = some d ∨ (back1 i rs ss = none ∧ d0 = d)) := by
  rw [back_at] at h
  cases q : env[i]? with
  | none => rw [q] at h; cases h
  | some s =>
    rw [q] at h
    cases s with
    | no => cases h
    | val _ => cases h
    | own p' d0 =>
      have h' : (match back1 i rs ss with
        | some d' => Sl.own p' d'
        | none => Sl.own p' d0) = .own p d := Option.some.inj h
      cases b : back1 i rs ss with
      | some d' => rw [b] at h'; cases h'; exact ⟨d0, rfl, .inl rfl⟩
      | none => rw [b] at h'; cases h'; exact ⟨d, rfl, .inr ⟨rfl, rfl⟩⟩
theorem own_back {rs : List Res} {ss : List Sl} {i : Nat} {p : Bool} {d : D} (h : env[i]? = some (.own p d)) : ∃ d', (back rs ss env)[i]? = some (.own p d') := by
  rw [back_at, h]
  cases b : back1 i rs ss with
  | some d' => exact ⟨d', by simp [b, backS]⟩
  | none => exact ⟨d, by simp [b, backS]⟩
theorem back_val {rs : List Res} {ss : List Sl} {i : Nat} {s : Sl} (h : (back rs ss env)[i]? = some s) (n : ∀ p d, s ≠ .own p d) : env[i]? = some s := by
  rw [back_at] at h
  cases q : env[i]? with
  | none => rw [q] at h; cases h
  | some s0 =>
    rw [q] at h
    cases s0 with
    | no => cases h; rfl
    | val _ => cases h; rfl
    | own p' d0 =>
      have h' : (match back1 i rs ss with
        | some d' => Sl.own p' d'
        | none => Sl.own p' d0) = s := Option.some.inj h
      cases b : back1 i rs ss with
      | some d' => rw [b] at h'; exact absurd h'.symm (n _ _)
      | none => rw [b] at h'; exact absurd h'.symm (n _ _)
theorem map_some_at {vs : List L2.V} {k : Nat} {o : Option L2.V} (h : (vs.map some)[k]? = some o) : ∃ x, o = some x ∧ vs[k]? = some x := by
  rw [List.getElem?_map] at h
  cases q : vs[k]? with
  | none => rw [q] at h; cases h
  | some x => rw [q] at h; cases h; exact ⟨x, rfl, rfl⟩
theorem map_some_of {vs : List L2.V} {k : Nat} {x : L2.V} (h : vs[k]? = some x) : (vs.map some)[k]? = some (some x) := by rw [List.getElem?_map, h]; rfl
/-- the callee's slots at its start -/
theorem args_ok {vs : List L2.V} {rs : List Res} {ss : List Sl} (ok : NvOk K V H σ env) (h : HeldA K V σ vs rs) (e : slsOf env rs = some ss) (df : dupFree rs = true) : NvOk K V H (vs.map some) ss := by
  refine ⟨by rw [List.length_map, sls_len e, heldA_len h], ok.sub, fun k o s h1 h2 => ?_, fun j k p q d d' l h1 h2 h3 h4 => ?_⟩
  · obtain ⟨x, hx, c⟩ := args_at h e k s h2
    obtain ⟨y, rfl, hy⟩ := map_some_at h1
    rw [hx] at hy
    cases hy
    rcases c with ⟨d, rfl, r⟩ | ⟨i, d, p, rfl, _, g2, g3⟩
    · exact r
    · obtain ⟨l, k1, k2, k3⟩ := ok.ownC g3
      rw [g2] at k1
      cases k1
      exact ⟨l, rfl, k2, k3⟩
  · obtain ⟨x, hx, c⟩ := args_at h e j _ h1
    obtain ⟨y, hy, c'⟩ := args_at h e k _ h2
    rw [map_some_of hx] at h3
    rw [map_some_of hy] at h4
    cases h3
    cases h4
    rcases c with ⟨d, z, _⟩ | ⟨i, d, p, z, f1, f2, f3⟩
    · cases z
    rcases c' with ⟨d, z, _⟩ | ⟨i', d, p, z, g1, g2, g3⟩
    · cases z
    have : i = i' := ok.one i i' _ _ _ _ l f3 g3 f2 g2
    subst this
    exact dup_free df f1 g1
theorem sd_call {g : Fn} {t : TA} {fs : EvA} {n : Nat} {Xk : XK} (ha : SdA K t fs) (hn : ∀ env rs env', fs env = some (rs, env') → rs.length = n) : Sd K (tCall (spF K n g) [] Xk t) (iCall g fs) := by
  intro env res env' e σ V H ok Q q
  simp only [iCall, Option.bind_eq_some_iff] at e
  obtain ⟨⟨rs, e1⟩, h1, ss, h2, h3⟩ := e
  split at h3
  · rename_i df
    simp only [Option.bind_eq_some_iff] at h3
    obtain ⟨⟨r, ss'⟩, h4, h5⟩ := h3
    split at h5
    · rename_i hnr
      cases h5
      refine ha _ _ _ h1 σ V H ok _ fun vs V1 H1 a k => ?_
      have aok := args_ok a.ok k h2 df
      show spF K n g (vs ++ []) H1 Q Xk
      rw [List.append_nil]
      refine ⟨by rw [heldA_len k]; exact hn _ _ _ h1, V1, ss, r, ss', aok, h4, fun v V' H' b hr => ?_⟩
      -- an argument's own object is an own object here
      have ownA : ∀ l, Own ss (vs.map some) l → ∃ (i k0 : Nat) (p : Bool) (d : D), rs[k0]? = some (.own i) ∧ σ[i]? = some (some (.ref l)) ∧ e1[i]? = some (.own p d) ∧ vs[k0]? = some (.ref l) ∧ ss[k0]? = some (.own true d) := by
        rintro l ⟨k0, p, d, z1, z2⟩
        obtain ⟨x, hx, c⟩ := args_at k h2 k0 _ z1
        rw [map_some_of hx] at z2
        cases z2
        rcases c with ⟨d', z, _⟩ | ⟨i, d', p', z, g1, g2, g3⟩
        · cases z
        · cases z
          exact ⟨i, k0, p', d, g1, g2, g3, hx, z1⟩
      have noL : ∀ l, ¬ OwnL ss (vs.map some) l := by
        rintro l ⟨k0, d, z1, z2⟩
        obtain ⟨x, hx, c⟩ := args_at k h2 k0 _ z1
        rcases c with ⟨d', z, _⟩ | ⟨i, d', p', z, _⟩ <;> cases z
      have bok : NvOk K V' H' σ (back rs ss' e1) := by
        refine ⟨?_, b.ok.sub, fun i o s z1 z2 => ?_, fun i j p q d d' l z1 z2 z3 z4 => ?_⟩
        · unfold back
          rw [backGo_len]
          exact a.ok.len
        · cases s with
          | no => cases o <;> trivial
          | val d =>
            have z3 := back_val z2 (fun p d z => by cases z)
            have z4 := a.ok.slot i o _ z1 z3
            cases o with
            | none => exact z4
            | some x => exact R.mono b.ex _ _ z4
          | own p d =>
            obtain ⟨d0, z3, z4⟩ := back_own z2
            obtain ⟨l, w1, w2, w3⟩ := a.ok.ownC z3
            rw [z1] at w1
            cases w1
            rcases z4 with z4 | ⟨z4, rfl⟩
            · obtain ⟨k0, p1, u1, u2⟩ := back1_some z4
              obtain ⟨l2, y1, y2, y3⟩ := b.ok.ownC u2
              obtain ⟨x, hx, hx2⟩ := map_some_at y1
              cases hx
              have hlen : ss.length = rs.length := sls_len h2
              obtain ⟨hk, _⟩ := List.getElem?_eq_some_iff.mp u1
              obtain ⟨x, hx3, c⟩ := args_at k h2 k0 ss[k0] (List.getElem?_eq_getElem (by omega))
              rw [hx2] at hx3
              cases hx3
              rcases c with ⟨d', z, r'⟩ | ⟨i', d', p', z, g1, g2, g3⟩
              · -- a visible argument is no own one
                exfalso
                obtain ⟨d9, hd9⟩ := args_own h2 u1
                rw [List.getElem?_eq_getElem (show k0 < ss.length by omega), z] at hd9
                cases hd9
              · rw [u1] at g1
                cases g1
                rw [g2] at z1
                cases z1
                exact ⟨_, rfl, y2, y3⟩
            · -- an own object that was no argument
              have nO : ¬ Own ss (vs.map some) l := fun z => by
                obtain ⟨i', k0, p', d', y1, y2, y3, y4, y5⟩ := ownA l z
                have : i = i' := a.ok.one i i' _ _ _ _ l z3 y3 z1 y2
                subst this
                obtain ⟨⟨d2, q1⟩, _⟩ := b.par k0 d' y5
                exact back1_none z4 y1 q1
              obtain ⟨o, ho⟩ := w3.there
              refine ⟨l, rfl, ?_, w3.mono b.ex ((b.keep l o ho nO).trans ho.symm)⟩
              cases y : V' l with
              | none => rfl
              | some o2 =>
                rcases b.fr l (by rw [y]; exact fun z => by cases z) with m | m | m
                · exact absurd w2 m
                · rw [ho] at m; cases m
                · exact absurd m (noL l)
        · obtain ⟨d1, y1, _⟩ := back_own z1
          obtain ⟨d2, y2, _⟩ := back_own z2
          exact a.ok.one i j p q d1 d2 l y1 y2 z3 z4
      have adv : Adv K σ e1 σ (back rs ss' e1) V1 H1 V' H' := by
        refine ⟨bok, b.ex, fun l z => ?_, fun l o z n => ?_, b.dom, fun l z => ?_, fun l z => ?_, fun i d z => ⟨own_back z, rfl⟩⟩
        · rcases b.fr l z with m | m | m
          · exact .inl m
          · exact .inr (.inl m)
          · exact absurd m (noL l)
        · refine b.keep l o z fun m => n ?_
          obtain ⟨i, k0, p, d, y1, y2, y3, y4, y5⟩ := ownA l m
          exact ⟨i, p, d, y3, y2⟩
        · obtain ⟨i, p, d, y1, y2⟩ := z
          obtain ⟨d1, y3, _⟩ := back_own y1
          exact .inl ⟨i, p, d1, y3, y2⟩
        · obtain ⟨i, d, y1, y2⟩ := z
          obtain ⟨d1, y3, _⟩ := back_own y1
          exact .inl ⟨i, d1, y3, y2⟩
      refine q v V' H' (a.trans adv) ?_
      cases r with
      | own i => cases hnr
      | val d => exact hr
      | new d =>
        obtain ⟨l, ev, w1, w2, w3, w4⟩ := hr
        have hl : H1 l = none := w1.elim id fun m => absurd m (noL l)
        refine ⟨l, ev, .inl ?_, w2, fun z => ?_, w4⟩
        · cases y : H l with
          | none => rfl
          | some o => exact absurd hl (a.dom l (by rw [y]; exact fun z => by cases z))
        · rcases adv.own l z with m | m
          · obtain ⟨_, o, ho⟩ := a.ok.ownH m
            rw [hl] at ho
            cases ho
          · obtain ⟨i, p, d', y1, y2⟩ := z
            obtain ⟨d1, y3, _⟩ := back_own y1
            obtain ⟨_, o, ho⟩ := a.ok.ownH ⟨i, p, d1, y3, y2⟩
            rw [hl] at ho
            cases ho
    · cases h5
  · cases h3
end
end DL

namespace DL
open PySem PySem.Spec PyProof.Rows L2
open Evl (Ex)

/-! ### a def by its body -/
def outs : List Sl → Nv → Option (List Sl)
  | [], _ => some []
  | _ :: _, [] => none
  | .own p _ :: ss, s :: e => match s with
    | .own true d => (outs ss e).bind fun o => some (.own p d :: o)
    | _ => none
  | s :: ss, _ :: e => (outs ss e).bind fun o => some (s :: o)
def parOnly : List Sl → Bool
  | [] => true
  | .own false _ :: _ => false
  | _ :: ss => parOnly ss
def runDef (n N : Nat) (g : StF) : Fn := fun sls => if sls.length = n ∧ n ≤ N ∧ parOnly sls = true then (g (sls ++ List.replicate (N - n) .no)).bind fun fl => match fl with
  | .next e => (outs sls e).bind fun o => some (.val .none, o)
  | .ret r e => if notOwnR r = true then (outs sls e).bind fun o => some (r, o) else none
  | _ => none else none
theorem par_only : ∀ {ss : List Sl} {k : Nat} {p : Bool} {d : D}, parOnly ss = true → ss[k]? = some (.own p d) → p = true
  | [], _, _, _, _, h => by simp at h
  | s :: ss, 0, p, d, e, h => by
    cases Option.some.inj h
    cases p with
    | true => rfl
    | false => cases e
  | s :: ss, k + 1, p, d, e, h => by
    have e' : parOnly ss = true := by
      cases s with
      | no => exact e
      | val _ => exact e
      | own p d => cases p with
        | true => exact e
        | false => cases e
    exact par_only (ss := ss) (k := k) e' h
theorem outs_len : ∀ {ss : List Sl} {e : Nv} {o : List Sl}, outs ss e = some o → o.length = ss.length
  | [], _, _, h => by cases h; rfl
  | _ :: _, [], _, h => by simp [outs] at h
  | s0 :: ss, s :: e, o, h => by
    cases s0 with
    | own p d0 =>
      cases s with
      | own p2 d =>
        cases p2 with
        | true =>
          simp only [outs, Option.bind_eq_some_iff] at h
          obtain ⟨o1, h1, h2⟩ := h
          cases h2
          rw [List.length_cons, List.length_cons, outs_len h1]
        | false => simp [outs] at h
      | _ => simp [outs] at h
    | no =>
      simp only [outs, Option.bind_eq_some_iff] at h
      obtain ⟨o1, h1, h2⟩ := h
      cases h2
      rw [List.length_cons, List.length_cons, outs_len h1]
    | val d =>
      simp only [outs, Option.bind_eq_some_iff] at h
      obtain ⟨o1, h1, h2⟩ := h
      cases h2
      rw [List.length_cons, List.length_cons, outs_len h1]
theorem outs_at : ∀ {ss : List Sl} {e : Nv} {o : List Sl} {k : Nat} {s : Sl}, outs ss e = some o → o[k]? = some s → (ss[k]? = some s ∧ ∀ p d, s ≠ .own p d) ∨ ∃ p d d0, s = .own p d ∧ ss[k]? = some (.own p d0) ∧ e[k]? = some (.own true d)
  | [], _, _, _, _, h, h2 => by cases h; simp at h2
  | _ :: _, [], _, _, _, h, _ => by simp [outs] at h
  | s0 :: ss, s :: e, o, k, s1, h, hk => by
    cases s0 with
    | own p d0 =>
      cases s with
      | own p2 d =>
        cases p2 with
        | true =>
          simp only [outs, Option.bind_eq_some_iff] at h
          obtain ⟨o1, h1, h2⟩ := h
          cases h2
          cases k with
          | zero => cases Option.some.inj hk; exact .inr ⟨p, d, d0, rfl, rfl, rfl⟩
          | succ k => exact outs_at (ss := ss) (e := e) (k := k) h1 hk
        | false => simp [outs] at h
      | _ => simp [outs] at h
    | no =>
      simp only [outs, Option.bind_eq_some_iff] at h
      obtain ⟨o1, h1, h2⟩ := h
      cases h2
      cases k with
      | zero => cases Option.some.inj hk; exact .inl ⟨rfl, fun p d z => by cases z⟩
      | succ k => exact outs_at (ss := ss) (e := e) (k := k) h1 hk
    | val d =>
      simp only [outs, Option.bind_eq_some_iff] at h
      obtain ⟨o1, h1, h2⟩ := h
      cases h2
      cases k with
      | zero => cases Option.some.inj hk; exact .inl ⟨rfl, fun p d z => by cases z⟩
      | succ k => exact outs_at (ss := ss) (e := e) (k := k) h1 hk
section
variable {K : PySem.W.Frag} {V H : Hp} {vs : List L2.V} {sls : List Sl}
theorem rep_own {ss : List Sl} {m k : Nat} {p : Bool} {d : D} (h : (ss ++ List.replicate m Sl.no)[k]? = some (.own p d)) : ss[k]? = some (.own p d) := by
  by_cases q : k < ss.length
  · rw [List.getElem?_append_left q] at h; exact h
  · rw [List.getElem?_append_right (by omega), List.getElem?_replicate] at h
    split at h <;> cases h
theorem start_ok {m : Nat} (ok : NvOk K V H (vs.map some) sls) : NvOk K V H (vs.map some ++ List.replicate m none) (sls ++ List.replicate m .no) := by
  have hl : vs.length = sls.length := by rw [← ok.len, List.length_map]
  refine ⟨by simp [hl], ok.sub, fun i o s h1 h2 => ?_, fun i j p q d e l h1 h2 h3 h4 => ?_⟩
  · by_cases q : i < sls.length
    · rw [List.getElem?_append_left (by rw [List.length_map]; omega)] at h1
      rw [List.getElem?_append_left q] at h2
      exact ok.slot i o s h1 h2
    · rw [List.getElem?_append_right (by omega), List.getElem?_replicate] at h2
      split at h2
      · cases h2; cases o <;> trivial
      · cases h2
  · have k1 := rep_own h1
    have k2 := rep_own h2
    have b1 := (List.getElem?_eq_some_iff.mp k1).1
    have b2 := (List.getElem?_eq_some_iff.mp k2).1
    rw [List.getElem?_append_left (by rw [List.length_map]; omega)] at h3 h4
    exact ok.one i j p q d e l k1 k2 h3 h4
theorem body_ok {t : TS} {g : StF} {N : List Str} {n : Nat} {Q : VK} {Xk : XK} (h : SdS K t g) (sp : spF K n (runDef n N.length g) vs H Q Xk) : t { nx := fun _ H' => Q .non H', rt := Q } (L2.start N vs) H := by
  obtain ⟨hn, V, sls, r, sls', ok, e, q⟩ := sp
  have hl : vs.length = sls.length := by rw [← ok.len, List.length_map]
  unfold runDef at e
  split at e
  · rename_i hc
    obtain ⟨c1, c2, c3⟩ := hc
    simp only [Option.bind_eq_some_iff] at e
    obtain ⟨fl, h1, h2⟩ := e
    have ok0 : NvOk K V H (L2.start N vs) (sls ++ List.replicate (N.length - n) .no) := by
      have e0 : L2.start N vs = vs.map some ++ List.replicate (N.length - n) none := by unfold L2.start; rw [hn]
      rw [e0]
      exact start_ok ok
    -- what the body has done, seen by the caller
    have fin : ∀ (e1 : Nv) (o : List Sl) (σ' : L2.St) (V' H' : Hp), outs sls e1 = some o → Adv K (L2.start N vs) (sls ++ List.replicate (N.length - n) .no) σ' e1 V H V' H' → Adv K (vs.map some) sls (vs.map some) o V H V' H' := by
      intro e1 o σ' V' H' ho a
      have sa : ∀ (k : Nat), k < sls.length → (L2.start N vs)[k]? = (vs.map some)[k]? := fun k hk => by
        unfold L2.start
        rw [List.getElem?_append_left (by rw [List.length_map]; omega)]
      have oa : ∀ l, Own (sls ++ List.replicate (N.length - n) .no) (L2.start N vs) l ↔ Own sls (vs.map some) l := fun l => by
        constructor
        · rintro ⟨k, p, d, z1, z2⟩
          have z3 := rep_own z1
          rw [sa k (List.getElem?_eq_some_iff.mp z3).1] at z2
          exact ⟨k, p, d, z3, z2⟩
        · rintro ⟨k, p, d, z1, z2⟩
          have hk := (List.getElem?_eq_some_iff.mp z1).1
          exact ⟨k, p, d, by rw [List.getElem?_append_left hk]; exact z1, by rw [sa k hk]; exact z2⟩
      have noL : ∀ l, ¬ OwnL (sls ++ List.replicate (N.length - n) .no) (L2.start N vs) l := by
        rintro l ⟨k, d, z1, z2⟩
        cases par_only c3 (rep_own z1)
      have atk : ∀ (k : Nat) (p : Bool) (d : D), o[k]? = some (.own p d) → ∃ d0, sls[k]? = some (.own p d0) ∧ e1[k]? = some (.own true d) ∧ σ'[k]? = (vs.map some)[k]? := by
        intro k p d z
        rcases outs_at ho z with ⟨_, z2⟩ | ⟨p', d', d0, z1, z2, z3⟩
        · exact absurd rfl (z2 p d)
        · cases z1
          have hk := (List.getElem?_eq_some_iff.mp z2).1
          have hp := par_only c3 z2
          subst hp
          obtain ⟨_, z5⟩ := a.par k d0 (by rw [List.getElem?_append_left hk]; exact z2)
          exact ⟨d0, z2, z3, by rw [z5, sa k hk]⟩
      refine ⟨⟨by rw [List.length_map, outs_len ho, hl], a.ok.sub, fun k x s z1 z2 => ?_, fun i j p q d d' l z1 z2 z3 z4 => ?_⟩, a.ex, fun l z => ?_, fun l x z m => a.keep l x z fun y => m ((oa l).mp y), a.dom, fun l z => ?_, fun l z => ?_, fun k d z => ?_⟩
      · cases s with
        | no => cases x <;> trivial
        | val d =>
          rcases outs_at ho z2 with ⟨y1, _⟩ | ⟨_, _, _, y, _⟩
          · have y2 := ok.slot k x _ z1 y1
            cases x with
            | none => exact y2
            | some x => exact R.mono a.ex _ _ y2
          · cases y
        | own p d =>
          obtain ⟨d0, y1, y2, y3⟩ := atk k p d z2
          rw [z1] at y3
          have y4 := a.ok.slot k x (.own true d) y3 y2
          cases x with
          | none => exact y4
          | some x => exact y4
      · obtain ⟨d1, y1, _⟩ := atk i p d z1
        obtain ⟨d2, y2, _⟩ := atk j q d' z2
        exact ok.one i j p q d1 d2 l y1 y2 z3 z4
      · rcases a.fr l z with y | y | y
        · exact .inl y
        · exact .inr (.inl y)
        · exact absurd y (noL l)
      · obtain ⟨k, p, d, z1, z2⟩ := z
        obtain ⟨d0, y1, _⟩ := atk k p d z1
        exact .inl ⟨k, p, d0, y1, z2⟩
      · obtain ⟨k, d, z1, z2⟩ := z
        obtain ⟨d0, y1, _⟩ := atk k false d z1
        cases par_only c3 y1
      · have hk := (List.getElem?_eq_some_iff.mp z).1
        have hk2 : k < o.length := by rw [outs_len ho]; exact hk
        refine ⟨?_, rfl⟩
        rcases outs_at ho (List.getElem?_eq_getElem hk2) with ⟨y1, y2⟩ | ⟨p, d1, d0, y1, y2, y3⟩
        · rw [z] at y1
          exact absurd (Option.some.inj y1).symm (y2 true d)
        · rw [z] at y2
          cases y2
          exact ⟨d1, by rw [← y1]; exact List.getElem?_eq_getElem hk2⟩
    have noL2 : ∀ l, ¬ OwnL (sls ++ List.replicate (N.length - n) .no) (L2.start N vs) l := by
      rintro l ⟨k, d, z1, z2⟩
      cases par_only c3 (rep_own z1)
    refine h _ _ h1 _ V H ok0 _ ?_
    cases fl with
    | next e1 =>
      dsimp only at h2
      simp only [Option.bind_eq_some_iff] at h2
      obtain ⟨o, h3, h4⟩ := h2
      cases h4
      exact fun σ' V' H' a => q .non V' H' (fin e1 _ σ' V' H' h3 a) .none
    | brk e1 => cases h2
    | cont e1 => cases h2
    | ret r1 e1 =>
      dsimp only at h2
      split at h2
      · rename_i hr
        simp only [Option.bind_eq_some_iff] at h2
        obtain ⟨o, h3, h4⟩ := h2
        cases h4
        intro v σ' V' H' a k
        have f := fin e1 _ σ' V' H' h3 a
        refine q v V' H' f ?_
        cases r with
        | own i => cases hr
        | val d => exact k
        | new d =>
          obtain ⟨l, ev, w1, w2, w3, w4⟩ := k
          have hl0 : H l = none := w1.elim id fun m => absurd m (noL2 l)
          refine ⟨l, ev, .inl hl0, w2, fun z => ?_, w4⟩
          rcases f.own l z with m | m
          · obtain ⟨_, x, hx⟩ := ok.ownH m
            rw [hl0] at hx
            cases hx
          · obtain ⟨k0, p, d', y1, y2⟩ := z
            rcases outs_at h3 y1 with ⟨_, y3⟩ | ⟨p', d1, d0, y3, y4, y5⟩
            · exact y3 p d' rfl
            · cases y3
              obtain ⟨_, x, hx⟩ := ok.ownH ⟨k0, p, d0, y4, y2⟩
              rw [hl0] at hx
              cases hx
      · cases h2
  · cases e
end

/-! ### the judgements -/
def TD (X : Cx) (e : Expr) (f : EvT) : Prop := ∃ t, PT X e t ∧ SdT X.K t f
def WD (X : Cx) (e : Expr) (f : EvT) : Prop := ∃ t, PW X e t ∧ SdT X.K t f
def AD (X : Cx) (es : List Expr) (f : EvA) : Prop := ∃ t, PA X es t ∧ SdA X.K t f
def StD (X : Cx) (st : Stmt) (f : StF) : Prop := ∃ t, PS X st t ∧ SdS X.K t f
def BD (X : Cx) (st : List Stmt) (f : StF) : Prop := ∃ t, PSs X st t ∧ SdS X.K t f
def GD (X : Cx) (e : Expr) (f : TgF) : Prop := ∃ t, PG X e t ∧ SdG X.K t f
def GsD (X : Cx) (es : List Expr) (f : TgsF) : Prop := ∃ t, PGs X es t ∧ SdGs X.K t f
def ID (X : Cx) (tg e : Expr) (f : ItF) : Prop := ∃ t, PI X tg e t ∧ SdI X.K t f
section
variable {P : Program} {w : World} {K : PySem.W.Frag} {mg : Str → Option Value} {base : Heap}
/-- THE RULE for a def: its body judged -/
theorem def_ok {x qual : Str} {st : Stmt} {f : Addr} {fd : FuncData} {N ps : List Str} {k : Nat} {g : StF} (F : Fun K x qual st f fd) (S : FnScope N ps (defScope st))
    (hbody : ∀ (cdv : Value) (A : Around) (outer : List Env) (s : Shared) (H : Hp) (E : XK), Room k (A.deeper (envOfC qual (defScope st) s.heap.objs.size f cdv)) → BD (cxOf CX0 P w K mg base N qual (defScope st) f cdv A outer s H E).nox (defBody st) g) :
    FnOk P w K mg base CX0 (k + 1) f fd ps (spF K ps.length (runDef ps.length N.length g)) := by
  refine F.ok S (fun vs H Q E h => h.1) (fun cdv A outer s H vs Q E hr h => ?_)
  obtain ⟨t, h1, h2⟩ := hbody cdv A outer s H E hr
  exact ⟨t, h1, body_ok h2 h⟩
/-- no call at all -/
theorem fn_none {f : Addr} {fd : FuncData} {ps : List Str} {n : Nat} : FnOk P w K mg base CX0 0 f fd ps (spF K n fun _ => none) := by
  have no : ∀ vs H Q E, ¬ spF K n (fun _ => none) vs H Q E := fun vs H Q E h => by
    obtain ⟨_, V, sls, r, sls', _, e, _⟩ := h
    cases e
  exact ⟨fun vs H Q E h => absurd h (no vs H Q E), fun A outer s H args us vs Q E _ _ _ _ h => absurd h (no vs H Q E)⟩
end
end DL

namespace DL
open PySem PySem.Spec PyProof.Rows L2
open Evl (Ex)

/-! ### operations -/
def rOr (r s : R2) : R2 := fun x y H Q => r x y H Q ∨ s x y H Q
theorem opOr {X : Cx} {f : Value → Value → Sem Value} {r s : R2} (h : OpR X f r) (k : OpR X f s) : OpR X f (rOr r s) := by
  intro pins st σ H x y v u Q I rx ry q
  rcases q with q | q
  · exact h pins st σ H x y v u Q I rx ry q
  · exact k pins st σ H x y v u Q I rx ry q
theorem ixOr {X : Cx} {r s : R2} (h : IxR X r) (k : IxR X s) : IxR X (rOr r s) := IxR.or h k
def alt (g h : D → D → Option Res) : D → D → Option Res := fun d e => match g d e with
  | some r => some r
  | none => h d e
section
variable {K : PySem.W.Frag} {σ σ1 : L2.St} {env env1 env2 : Nv} {V H V1 H1 V2 H2 : Hp} {v : L2.V} {te ta tb : TE}
theorem binOr {r s : R2} {g h : D → D → Option Res} (a : BinOk K r g) (b : BinOk K s h) : BinOk K (rOr r s) (alt g h) := by
  intro V H x y d e res sub hx hy hg Q q
  unfold alt at hg
  split at hg
  · rename_i r' hr
    cases hg
    exact .inl (a V H x y d e res sub hx hy hr Q q)
  · exact .inr (b V H x y d e res sub hx hy hg Q q)
theorem OpOk.int {i : Int} (h : OpOk K V H v (.int i)) : v = .int i := by
  rcases h with h | ⟨l, _, _, h⟩
  · cases h; rfl
  · exact h.elim
theorem OpOk.str {i : Str} (h : OpOk K V H v (.str i)) : v = .str i := by
  rcases h with h | ⟨l, _, _, h⟩
  · cases h; rfl
  · exact h.elim
theorem OpOk.bool {i : Bool} (h : OpOk K V H v (.bool i)) : v = .bl i := by
  rcases h with h | ⟨l, _, _, h⟩
  · cases h; rfl
  · exact h.elim
theorem OpOk.none (h : OpOk K V H v .none) : v = .non := by
  rcases h with h | ⟨l, _, _, h⟩
  · cases h; rfl
  · exact h.elim
theorem OpOk.tuple {ds : List D} (h : OpOk K V H v (.tuple ds)) : ∃ a xs, v = .ref a ∧ SqT K V a xs ∧ RA K V xs ds := by
  rcases h with h | ⟨l, _, _, h⟩
  · cases h with
    | tuple h1 h2 => exact ⟨_, _, rfl, h1, h2⟩
  · exact h.elim
/-- a list: visible or owned; its items are visible -/
theorem OpOk.list {ds : List D} (h : OpOk K V H v (.list ds)) (sub : Ex V H) : ∃ a xs, v = .ref a ∧ SqL K H a xs ∧ RA K V xs ds := by
  rcases h with h | ⟨l, rfl, _, xs, h1, h2⟩
  · cases h with
    | list h1 h2 => exact ⟨_, _, rfl, Evl.ex_l sub h1, h2⟩
  · exact ⟨l, xs, rfl, Evl.sq_of h1, h2⟩
def oI (c : Int → Int → Option D) : D → D → Option Res := fun d e => match d, e with
  | .int i, .int j => (c i j).map .val
  | _, _ => none
theorem bin_I0 {g : Int → Int → L2.V} {h : Int → Int → D} (hr : ∀ i j V, R K V (g i j) (h i j)) : BinOk K (rI0 g) (oI fun i j => some (h i j)) := by
  intro V H x y d e res sub hx hy hg Q q
  unfold oI at hg
  split at hg
  · cases hx.int
    cases hy.int
    cases hg
    exact ⟨_, _, rfl, rfl, q _ V H (Al.refl sub) (hr _ _ V)⟩
  · cases hg
theorem bin_I {C : Int → Int → Prop} {g : Int → Int → L2.V} {h : Int → Int → D} {c : Int → Int → Bool} (hc : ∀ i j, c i j = true → C i j) (hr : ∀ i j V, R K V (g i j) (h i j)) : BinOk K (rI C g) (oI fun i j => if c i j = true then some (h i j) else none) := by
  intro V H x y d e res sub hx hy hg Q q
  unfold oI at hg
  split at hg
  · cases hx.int
    cases hy.int
    simp only [Option.map_eq_some_iff] at hg
    obtain ⟨d9, hg, rfl⟩ := hg
    split at hg
    · rename_i hcc
      cases hg
      exact ⟨_, _, rfl, rfl, hc _ _ hcc, q _ V H (Al.refl sub) (hr _ _ V)⟩
    · cases hg
  · cases hg
/-- + -/
def gAddS : D → D → Option Res := fun d e => match d, e with
  | .str s, .str t => if s.length + t.length ≤ 100000 then some (.val (.str (s ++ t))) else none
  | _, _ => none
def gCatT : D → D → Option Res := fun d e => match d, e with
  | .tuple s, .tuple t => if s.length + t.length ≤ 100000 then some (.val (.tuple (s ++ t))) else none
  | _, _ => none
def gCatL : D → D → Option Res := fun d e => match d, e with
  | .list s, .list t => if s.length + t.length ≤ 100000 then some (.new (.list (s ++ t))) else none
  | _, _ => none
theorem bin_addS : BinOk K (fun x y H Q => ∃ i j, x = .str i ∧ y = .str j ∧ i.length + j.length ≤ sizeLine ∧ Q (.str (i ++ j)) H) gAddS := by
  intro V H x y d e res sub hx hy hg Q q
  unfold gAddS at hg
  split at hg
  · split at hg
    · rename_i hz
      cases hx.str
      cases hy.str
      cases hg
      exact ⟨_, _, rfl, rfl, Evl.sz_of hz, q _ V H (Al.refl sub) (.str _)⟩
    · cases hg
  · cases hg
theorem bin_catT : BinOk K (rCatA K) gCatT := by
  intro V H x y d e res sub hx hy hg Q q
  unfold gCatT at hg
  split at hg
  · split at hg
    · rename_i hz
      obtain ⟨a, xs, rfl, h1, h2⟩ := hx.tuple
      obtain ⟨b, ys, rfl, h3, h4⟩ := hy.tuple
      cases hg
      refine ⟨a, b, xs, ys, rfl, rfl, Evl.ex_t sub h1, Evl.ex_t sub h3, Evl.sz_of (by rw [h2.len, h4.len]; exact hz), fun z => ?_, fun _ z => ?_, fun _ _ p hp => ?_⟩
      · subst z
        cases h2
        exact q _ V H (Al.refl sub) (.tuple h3 h4)
      · subst z
        cases h4
        rw [List.append_nil] at q
        exact q _ V H (Al.refl sub) (.tuple h1 h2)
      · have b : Al V H (upd V p (.tup (xs ++ ys))) (upd H p (.tup (xs ++ ys))) := Al.new sub hp
        exact q _ _ _ b (.tuple (Evl.st_of upd_same) (RA.mono b.ex _ _ (h2.append h4)))
    · cases hg
  · cases hg
theorem bin_catL : BinOk K (fun x y H Q => ∃ a b xs ys, x = .ref a ∧ y = .ref b ∧ SqL K H a xs ∧ SqL K H b ys ∧ xs.length + ys.length ≤ sizeLine ∧ ∀ p, H p = none → Q (.ref p) (upd H p (.lst (xs ++ ys)))) gCatL := by
  intro V H x y d e res sub hx hy hg Q q
  unfold gCatL at hg
  split at hg
  · split at hg
    · rename_i hz
      obtain ⟨a, xs, rfl, h1, h2⟩ := hx.list sub
      obtain ⟨b, ys, rfl, h3, h4⟩ := hy.list sub
      cases hg
      refine ⟨a, b, xs, ys, rfl, rfl, h1, h3, Evl.sz_of (by rw [h2.len, h4.len]; exact hz), fun p hp => ?_⟩
      exact q _ _ _ (Al.hid sub hp) ⟨p, rfl, hp, Evl.fresh_back sub hp, _, upd_same, h2.append h4⟩
    · cases hg
  · cases hg

/-! ### == -/
def toPy : D → Option PyData
  | .none => some .none
  | .bool b => some (.bool b)
  | .int i => some (.int i)
  | .str s => some (.str s)
  | .list xs => (toPys xs).map .list
  | .tuple xs => (toPys xs).map .tuple
  | _ => none
where toPys : List D → Option (List PyData)
  | [] => some []
  | d :: ds => match toPy d, toPys ds with
    | some p, some ps => some (p :: ps)
    | _, _ => none
mutual
theorem dp_of : ∀ (d : D) (v : L2.V) (p : PyData), R K H v d → toPy d = some p → Dp K H v p
  | .none, _, _, h, e => by cases h; cases e; exact .non
  | .bool b, _, _, h, e => by cases h; cases e; exact .bl b
  | .int i, _, _, h, e => by cases h; cases e; exact .int i
  | .str s, _, _, h, e => by cases h; cases e; exact .str s
  | .list xs, _, _, h, e => by
    simp only [toPy, Option.map_eq_some_iff] at e
    obtain ⟨ps, e1, rfl⟩ := e
    cases h with
    | list h1 h2 => exact .lst h1 (dps_of xs _ ps h2 e1)
  | .tuple xs, _, _, h, e => by
    simp only [toPy, Option.map_eq_some_iff] at e
    obtain ⟨ps, e1, rfl⟩ := e
    cases h with
    | tuple h1 h2 => exact .tup h1 (dps_of xs _ ps h2 e1)
  | .dictK _ _, _, _, h, e => by simp [toPy] at e
  | .dictT _ _, _, _, h, e => by simp [toPy] at e
  | .fn _, _, _, h, e => by simp [toPy] at e
theorem dps_of : ∀ (ds : List D) (vs : List L2.V) (ps : List PyData), RA K H vs ds → toPy.toPys ds = some ps → DpAll K H vs ps
  | [], _, _, h, e => by cases h; cases e; exact .nil
  | d :: ds, _, _, h, e => by
    cases h with
    | cons h1 h2 =>
      simp only [toPy.toPys] at e
      split at e
      · rename_i p ps' q1 q2
        cases e
        exact .cons (dp_of d _ p h1 q1) (dps_of ds _ ps' h2 q2)
      · cases e
end
def scalD : D → Bool
  | .none => true
  | .bool _ => true
  | .int _ => true
  | .str _ => true
  | _ => false
/-- equal data (without dicts) -/
def eqD (d e : D) : Option Bool := match d, e with
  | .int i, .int j => some (decide (i = j))
  | .str i, .str j => some (decide (i = j))
  | .bool i, .bool j => some (decide (i = j))
  | _, _ => (toPy d).bind fun p => (toPy e).bind fun q => if SeqAt.shaped p = true ∧ SeqAt.shaped q = true then some (PyData.eqv p q) else none
def gEq : D → D → Option Res := fun d e => (eqD d e).map fun b => .val (.bool b)
def gNe : D → D → Option Res := fun d e => (eqD d e).map fun b => .val (.bool (!b))
theorem eqD_inv {d e : D} {b : Bool} {x y : L2.V} (hx : R K H x d) (hy : R K H y e) (h : eqD d e = some b) : (scal x y = true ∧ b = decide (x = y)) ∨ ∃ p q, Dp K H x p ∧ Dp K H y q ∧ SeqAt.shaped p = true ∧ SeqAt.shaped q = true ∧ b = PyData.eqv p q := by
  unfold eqD at h
  split at h
  · cases hx; cases hy; cases h; exact .inl ⟨rfl, by simp⟩
  · cases hx; cases hy; cases h; exact .inl ⟨rfl, by simp⟩
  · cases hx; cases hy; cases h; exact .inl ⟨rfl, by simp⟩
  · simp only [Option.bind_eq_some_iff] at h
    obtain ⟨p, h1, q, h2, h3⟩ := h
    split at h3
    · rename_i hs
      cases h3
      exact .inr ⟨p, q, dp_of _ _ _ hx h1, dp_of _ _ _ hy h2, hs.1, hs.2, rfl⟩
    · cases h3
theorem bin_eq : BinOk K (rOr rEq (rEqD K)) gEq := by
  intro V H x y d e res sub hx hy hg Q q
  simp only [gEq, Option.map_eq_some_iff] at hg
  obtain ⟨b, hb, rfl⟩ := hg
  rcases eqD_inv (hx.seen sub) (hy.seen sub) hb with ⟨h1, rfl⟩ | ⟨p, p', h1, h2, h3, h4, rfl⟩
  · exact .inl ⟨h1, q _ V H (Al.refl sub) (.bool _)⟩
  · exact .inr ⟨p, p', h1, h2, h3, h4, q _ V H (Al.refl sub) (.bool _)⟩
theorem bin_ne : BinOk K (rOr rNe (rNeD K)) gNe := by
  intro V H x y d e res sub hx hy hg Q q
  simp only [gNe, Option.map_eq_some_iff] at hg
  obtain ⟨b, hb, rfl⟩ := hg
  rcases eqD_inv (hx.seen sub) (hy.seen sub) hb with ⟨h1, rfl⟩ | ⟨p, p', h1, h2, h3, h4, rfl⟩
  · exact .inl ⟨h1, q _ V H (Al.refl sub) (.bool _)⟩
  · exact .inr ⟨p, p', h1, h2, h3, h4, q _ V H (Al.refl sub) (.bool _)⟩
/-- is None -/
def isNoneD : D → Bool
  | .none => true
  | _ => false
def gIs : D → D → Option Res := fun d e => match e with
  | .none => some (.val (.bool (isNoneD d)))
  | _ => none
def gIsN : D → D → Option Res := fun d e => match e with
  | .none => some (.val (.bool (!isNoneD d)))
  | _ => none
theorem non_iff {d : D} (h : R K H v d) : decide (v = .non) = isNoneD d := by cases h <;> rfl
theorem bin_is : BinOk K (fun x y H Q => y = .non ∧ Q (.bl (decide (x = .non))) H) gIs := by
  intro V H x y d e res sub hx hy hg Q q
  unfold gIs at hg
  split at hg
  · cases hg
    refine ⟨hy.none, ?_⟩
    rw [non_iff (hx.seen sub)]
    exact q _ V H (Al.refl sub) (.bool _)
  · cases hg
theorem bin_isN : BinOk K (fun x y H Q => y = .non ∧ Q (.bl (!decide (x = .non))) H) gIsN := by
  intro V H x y d e res sub hx hy hg Q q
  unfold gIsN at hg
  split at hg
  · cases hg
    refine ⟨hy.none, ?_⟩
    rw [non_iff (hx.seen sub)]
    exact q _ V H (Al.refl sub) (.bool _)
  · cases hg
/-- tuples of ints: < -/
def intsOf : List D → Option (List Int)
  | [] => some []
  | .int i :: ds => (intsOf ds).map (i :: ·)
  | _ :: _ => none
theorem intsOf_eq : ∀ {ds : List D} {ns : List Int}, intsOf ds = some ns → ds = ns.map D.int
  | [], ns, h => by cases h; rfl
  | d :: ds, ns, h => by
    cases d with
    | int i =>
      simp only [intsOf, Option.map_eq_some_iff] at h
      obtain ⟨ms, h1, rfl⟩ := h
      rw [intsOf_eq h1]
      rfl
    | _ => cases h
def gLtT : D → D → Option Res := fun d e => match d, e with
  | .tuple s, .tuple t => (intsOf s).bind fun ns => (intsOf t).bind fun ms => some (.val (.bool (HT.lexLt ns ms)))
  | _, _ => none
theorem bin_ltT : BinOk K (rLtT K) gLtT := by
  intro V H x y d e res sub hx hy hg Q q
  unfold gLtT at hg
  split at hg
  · simp only [Option.bind_eq_some_iff] at hg
    obtain ⟨ns, h1, ms, h2, h3⟩ := hg
    cases h3
    obtain ⟨a, xs, rfl, k1, k2⟩ := hx.tuple
    obtain ⟨b, ys, rfl, k3, k4⟩ := hy.tuple
    rw [intsOf_eq h1] at k2
    rw [intsOf_eq h2] at k4
    rw [k2.ofInts] at k1
    rw [k4.ofInts] at k3
    exact ⟨a, b, ns, ms, rfl, rfl, Evl.ex_t sub k1, Evl.ex_t sub k3, q _ V H (Al.refl sub) (.bool _)⟩
  · cases hg
/-- in -/
def flatD : D → Bool
  | .none => true
  | .bool _ => true
  | .int _ => true
  | .str _ => true
  | _ => false
def eqF : D → D → Bool
  | .none, .none => true
  | .bool a, .bool b => a == b
  | .bool a, .int b => (if a then 1 else 0) == b
  | .int a, .bool b => a == (if b then 1 else 0)
  | .int a, .int b => a == b
  | .str a, .str b => a == b
  | _, _ => false
theorem flat_of {d : D} (h : R K H v d) (e : flatD d = true) : flatV v = true := by cases h <;> first | rfl | cases e
theorem eqF_of {d e : D} {x y : L2.V} (h : R K H x d) (k : R K H y e) (f : flatD d = true) (f2 : flatD e = true) : eqV x y = eqF d e := by
  cases h <;> cases k <;> first | rfl | cases f | cases f2
theorem flats_of : ∀ {ds : List D} {vs : List L2.V}, RA K H vs ds → ds.all flatD = true → vs.all flatV = true
  | [], _, h, _ => by cases h; rfl
  | d :: ds, _, h, e => by
    cases h with
    | cons h1 h2 =>
      rw [List.all_cons, Bool.and_eq_true] at e ⊢
      exact ⟨flat_of h1 e.1, flats_of h2 e.2⟩
theorem inV_of {d : D} {x : L2.V} (hx : R K H x d) (f : flatD d = true) : ∀ {ds : List D} {vs : List L2.V}, RA K H vs ds → ds.all flatD = true → inV x vs = ds.any fun e => eqF e d
  | [], _, h, _ => by cases h; rfl
  | e :: ds, _, h, k => by
    cases h with
    | cons h1 h2 =>
      rw [List.all_cons, Bool.and_eq_true] at k
      have q := inV_of hx f h2 k.2
      unfold inV at q ⊢
      rw [List.any_cons, List.any_cons, q, eqF_of h1 hx k.1 f]
def itemsD : D → Option (List D)
  | .list ds => some ds
  | .tuple ds => some ds
  | _ => none
def gIn (neg : Bool) : D → D → Option Res := fun d e => (itemsD e).bind fun ds => if flatD d = true ∧ ds.all flatD = true then some (.val (.bool (if neg then !ds.any (fun e => eqF e d) else ds.any (fun e => eqF e d)))) else none
theorem bin_in {neg : Bool} : BinOk K (rIn K neg) (gIn neg) := by
  intro V H x y d e res sub hx hy hg Q q
  simp only [gIn, Option.bind_eq_some_iff] at hg
  obtain ⟨ds, h1, h2⟩ := hg
  split at h2
  · rename_i hf
    cases h2
    have rx := hx.seen sub
    cases e with
    | list es =>
      cases h1
      obtain ⟨a, xs, rfl, k1, k2⟩ := hy.list sub
      refine ⟨a, xs, rfl, .inl k1, flat_of rx hf.1, flats_of k2 hf.2, ?_⟩
      rw [inV_of rx hf.1 (RA.mono sub _ _ k2) hf.2]
      exact q _ V H (Al.refl sub) (.bool _)
    | tuple es =>
      cases h1
      obtain ⟨a, xs, rfl, k1, k2⟩ := hy.tuple
      refine ⟨a, xs, rfl, .inr (Evl.ex_t sub k1), flat_of rx hf.1, flats_of k2 hf.2, ?_⟩
      rw [inV_of rx hf.1 (RA.mono sub _ _ k2) hf.2]
      exact q _ V H (Al.refl sub) (.bool _)
    | _ => cases h1
  · cases h2
def gInS (neg : Bool) : D → D → Option Res := fun d e => match d, e with
  | .str s, .str t => some (.val (.bool (if neg then !(!(Builtin.Str.occurrences t s 0 t.length 1).isEmpty) else !(Builtin.Str.occurrences t s 0 t.length 1).isEmpty)))
  | _, _ => none
theorem bin_inS : BinOk K (fun x y H Q => ∃ i j, x = .str i ∧ y = .str j ∧ Q (.bl (!(Builtin.Str.occurrences j i 0 j.length 1).isEmpty)) H) (gInS false) := by
  intro V H x y d e res sub hx hy hg Q q
  unfold gInS at hg
  split at hg
  · cases hx.str
    cases hy.str
    cases hg
    exact ⟨_, _, rfl, rfl, q _ V H (Al.refl sub) (.bool _)⟩
  · cases hg
theorem bin_ninS : BinOk K (fun x y H Q => ∃ i j, x = .str i ∧ y = .str j ∧ Q (.bl (!(!(Builtin.Str.occurrences j i 0 j.length 1).isEmpty))) H) (gInS true) := by
  intro V H x y d e res sub hx hy hg Q q
  unfold gInS at hg
  split at hg
  · cases hx.str
    cases hy.str
    cases hg
    exact ⟨_, _, rfl, rfl, q _ V H (Al.refl sub) (.bool _)⟩
  · cases hg
/-- x[i] -/
def gIx : D → D → Option Res := fun d e => match d, e with
  | .list ds, .int i => (atI ds i).map .val
  | .tuple ds, .int i => (atI ds i).map .val
  | .str s, .int i => if s.length ≤ 100000 then (atI s.cps.toList i).map fun c => .val (.str ⟨#[c]⟩) else none
  | _, _ => none
theorem RA.atI {xs : List L2.V} {ds : List D} {i : Int} {d : D} (h : RA K V xs ds) (e : L2.atI ds i = some d) : ∃ x, L2.atI xs i = some x ∧ R K V x d := by
  unfold L2.atI at e ⊢
  rw [h.len]
  cases q : ixN ds.length i with
  | none => rw [q] at e; cases e
  | some j =>
    rw [q] at e
    obtain ⟨x, h1, h2⟩ := h.get e
    exact ⟨x, h1, h2⟩
theorem bin_ix : BinOk K (rIx K) gIx := by
  intro V H x y d e res sub hx hy hg Q q
  unfold gIx at hg
  split at hg
  · simp only [Option.map_eq_some_iff] at hg
    obtain ⟨d', h1, rfl⟩ := hg
    obtain ⟨a, xs, rfl, k1, k2⟩ := hx.list sub
    cases hy.int
    obtain ⟨z, h2, h3⟩ := k2.atI h1
    exact .inl ⟨a, xs, _, z, rfl, rfl, k1, h2, q z V H (Al.refl sub) h3⟩
  · simp only [Option.map_eq_some_iff] at hg
    obtain ⟨d', h1, rfl⟩ := hg
    obtain ⟨a, xs, rfl, k1, k2⟩ := hx.tuple
    cases hy.int
    obtain ⟨z, h2, h3⟩ := k2.atI h1
    exact .inr (.inl ⟨a, xs, _, z, rfl, rfl, Evl.ex_t sub k1, h2, q z V H (Al.refl sub) h3⟩)
  · split at hg
    · rename_i hz
      simp only [Option.map_eq_some_iff] at hg
      obtain ⟨c, h1, rfl⟩ := hg
      cases hx.str
      cases hy.int
      exact .inr (.inr ⟨_, _, c, rfl, rfl, Evl.sz_of hz, h1, q _ V H (Al.refl sub) (.str _)⟩)
    · cases hg
  · cases hg
/-! ### slices -/
abbrev EvO := Nv → Option (Option Int × Nv)
def SdO (K : PySem.W.Frag) (t : TO) (f : EvO) : Prop := ∀ env o env', f env = some (o, env') → ∀ (σ : L2.St) (V H : Hp), NvOk K V H σ env →
  ∀ Q : Option Int → Hp → Prop, (∀ V' H', Adv K σ env σ env' V H V' H' → Q o H') → t σ H Q
def iNoP : EvO := fun env => some (none, env)
def isI : Res → Option Int
  | .val (.int i) => some i
  | _ => none
theorem isI_val {r : Res} {b : Int} (h : isI r = some b) : r = .val (.int b) := by
  cases r with
  | val d => cases d <;> first | (cases h; rfl) | cases h
  | _ => cases h
def iPart (f : EvF) : EvO := fun env => (f env).bind fun p => (isI p.1).bind fun i => some (some i, p.2)
theorem sdo_none : SdO K tNoPart iNoP := by
  intro env o env' e σ V H ok Q q
  cases e
  exact q V H (Adv.refl ok)
theorem sdo_part {f : EvF} (ha : Sd K te f) : SdO K (tPart te) (iPart f) := by
  intro env o env' e σ V H ok Q q
  simp only [iPart, Option.bind_eq_some_iff] at e
  obtain ⟨⟨r, e1⟩, h1, i, h2, h3⟩ := e
  cases h3
  have hr : r = _ := isI_val h2
  subst hr
  refine ha _ _ _ h1 σ V H ok _ fun v V' H' a k => ?_
  cases k
  exact ⟨i, rfl, q V' H' a⟩
def cutD {α : Type} (xs : List α) (lo hi : Option Int) : List α := (xs.drop (HT.sIx xs.length 0 lo)).take (HT.sIx xs.length xs.length hi - HT.sIx xs.length 0 lo)
theorem RA.cut {xs : List L2.V} {ds : List D} {lo hi : Option Int} (h : RA K V xs ds) : RA K V (cutV xs lo hi) (cutD ds lo hi) := by
  unfold cutV cutD
  rw [h.len]
  exact (h.drop _).take _
def gSl : D → Option Int → Option Int → Option Res := fun d lo hi => match d with
  | .list ds => some (.new (.list (cutD ds lo hi)))
  | .tuple ds => some (.val (.tuple (cutD ds lo hi)))
  | .str s => if s.length ≤ 100000 then some (.val (.str (cutS s lo hi))) else none
  | _ => none
def rSlU (K : PySem.W.Frag) : L2.V → Option Int → Option Int → Hp → VK → Prop := fun x lo hi H Q => rSlL K x lo hi H Q ∨ rSlA K x lo hi H Q ∨ rSlS x lo hi H Q
def iSl (f : EvF) (lo hi : EvO) : EvF := fun env => (opd f env).bind fun p => (lo p.2).bind fun q => (hi q.2).bind fun r => (look r.2 p.1).bind fun d => (gSl d q.1 r.1).bind fun z => some (z, r.2)
theorem cut_whole {α : Type} {xs : List α} {lo hi : Option Int} (h : HT.sIx xs.length 0 lo = 0 ∧ HT.sIx xs.length xs.length hi = xs.length) : cutD xs lo hi = xs := by
  unfold cutD
  rw [h.1, h.2]
  simp
theorem sd_sl {f : EvF} {tl th : TO} {lo hi : EvO} (ha : Sd K te f) (h1 : SdO K tl lo) (h2 : SdO K th hi) : Sd K (tSl (rSlU K) te tl th) (iSl f lo hi) := by
  intro env res env' e σ V H ok Q q
  simp only [iSl, Option.bind_eq_some_iff] at e
  obtain ⟨⟨ra, e1⟩, k1, ⟨o1, e2⟩, k2, ⟨o2, e3⟩, k3, d, k4, z, k5, k6⟩ := e
  cases k6
  refine opd_snd ha k1 ok fun x V1 H1 a1 c1 => ?_
  refine h1 _ _ _ k2 σ V1 H1 a1.ok _ fun V2 H2 a2 => ?_
  refine h2 _ _ _ k3 σ V2 H2 a2.ok _ fun V3 H3 a3 => ?_
  have a := (a1.trans a2).trans a3
  have op := ((c1.mono a2.ex).mono a3.ex).look a.ok k4
  have go : ∀ v V' H', Al V3 H3 V' H' → RR K H3 V' H' v res → Q v H' := fun v V' H' b hr => q v V' H' (a.trans (b.adv a.ok)) (hr.rok a b)
  have k5' : gSl d o1 o2 = some res := k5
  unfold gSl at k5'
  split at k5'
  · cases k5'
    obtain ⟨l, xs, rfl, g1, g2⟩ := op.list a.ok.sub
    exact .inl ⟨l, xs, rfl, g1, fun p hp => go _ _ _ (Al.hid a.ok.sub hp) ⟨p, rfl, hp, Evl.fresh_back a.ok.sub hp, _, upd_same, g2.cut⟩⟩
  · cases k5'
    obtain ⟨l, xs, rfl, g1, g2⟩ := op.tuple
    refine .inr (.inl ⟨l, xs, rfl, Evl.ex_t a.ok.sub g1, fun hw => ?_, fun _ p hp => ?_⟩)
    · have hw' := hw
      rw [g2.len] at hw'
      rw [cut_whole hw'] at go
      exact go _ V3 H3 (Al.refl a.ok.sub) (.tuple g1 g2)
    · have b : Al V3 H3 (upd V3 p (.tup (cutV xs o1 o2))) (upd H3 p (.tup (cutV xs o1 o2))) := Al.new a.ok.sub hp
      exact go _ _ _ b (.tuple (Evl.st_of upd_same) (RA.mono b.ex _ _ g2.cut))
  · split at k5'
    · rename_i hz
      cases k5'
      cases op.str
      exact .inr (.inr ⟨_, rfl, Evl.sz_of hz, go _ V3 H3 (Al.refl a.ok.sub) (.str _)⟩)
    · cases k5'
  · cases k5'
end
end DL

namespace DL
open PySem PySem.Spec PyProof.Rows L2
open Evl (Ex)

/-! ### built-ins by values -/
def cOr (r s : List L2.V → Hp → VK → Prop) : List L2.V → Hp → VK → Prop := fun vs H Q => r vs H Q ∨ s vs H Q
theorem callOr {X : Cx} {f : Value} {r s : List L2.V → Hp → VK → Prop} (h : CallR X f r) (k : CallR X f s) : CallR X f (cOr r s) := by
  intro pins st σ H vs us Q I rv q
  rcases q with q | q
  · exact h pins st σ H vs us Q I rv q
  · exact k pins st σ H vs us Q I rv q
def altC (g h : List D → Option Res) : List D → Option Res := fun ds => match g ds with
  | some r => some r
  | none => h ds
section
variable {K : PySem.W.Frag} {σ σ1 : L2.St} {env env1 env2 : Nv} {V H V1 H1 V2 H2 : Hp} {v : L2.V} {te ta tb : TE}
theorem callOkOr {r s : List L2.V → Hp → VK → Prop} {g h : List D → Option Res} (a : CallOk K r g) (b : CallOk K s h) : CallOk K (cOr r s) (altC g h) := by
  intro V H vs ds res sub hv hg Q q
  unfold altC at hg
  split at hg
  · rename_i r' hr
    cases hg
    exact .inl (a V H vs ds res sub hv hr Q q)
  · exact .inr (b V H vs ds res sub hv hg Q q)
theorem OpA.one {vs : List L2.V} {d : D} (h : OpA K V H vs [d]) : ∃ v, vs = [v] ∧ OpOk K V H v d := by
  cases h with
  | cons h1 h2 => cases h2; exact ⟨_, rfl, h1⟩
def lenD : D → Option Int
  | .str s => if s.length ≤ 100000 then some (s.length : Int) else none
  | .list ds => some (ds.length : Int)
  | .tuple ds => some (ds.length : Int)
  | _ => none
def c1 (g : D → Option Res) : List D → Option Res := fun ds => match ds with
  | [d] => g d
  | _ => none
def gLen : D → Option Res := fun d => (lenD d).map fun i => .val (.int i)
theorem call_len_ok : CallOk K (fun xs H Q => ∃ x n, xs = [x] ∧ LenV K x H n ∧ Q (.int n) H) (c1 gLen) := by
  intro V H vs ds res sub hv hg Q q
  unfold c1 at hg
  split at hg
  · obtain ⟨v, rfl, hx⟩ := hv.one
    simp only [gLen, Option.map_eq_some_iff] at hg
    obtain ⟨i, h1, rfl⟩ := hg
    rename_i d
    cases d with
    | str s =>
      simp only [lenD] at h1
      split at h1
      · rename_i hz
        cases h1
        cases hx.str
        exact ⟨_, _, rfl, ⟨Evl.sz_of hz, rfl⟩, q _ V H (Al.refl sub) (.int _)⟩
      · cases h1
    | list ds =>
      cases h1
      obtain ⟨a, xs, rfl, k1, k2⟩ := hx.list sub
      exact ⟨_, _, rfl, .inl ⟨xs, k1, rfl⟩, q _ V H (Al.refl sub) (by rw [k2.len]; exact .int _)⟩
    | tuple ds =>
      cases h1
      obtain ⟨a, xs, rfl, k1, k2⟩ := hx.tuple
      exact ⟨_, _, rfl, .inr ⟨xs, Evl.ex_t sub k1, rfl⟩, q _ V H (Al.refl sub) (by rw [k2.len]; exact .int _)⟩
    | _ => cases h1
  · cases hg
def gInt : D → Option Res
  | .int i => some (.val (.int i))
  | .bool b => some (.val (.int (if b then 1 else 0)))
  | _ => none
theorem call_int_ok : CallOk K (fun xs H Q => (∃ i, xs = [.int i] ∧ Q (.int i) H) ∨ ∃ k, xs = [.bl k] ∧ Q (.int (if k then 1 else 0)) H) (c1 gInt) := by
  intro V H vs ds res sub hv hg Q q
  unfold c1 at hg
  split at hg
  · obtain ⟨v, rfl, hx⟩ := hv.one
    unfold gInt at hg
    split at hg
    · cases hg
      cases hx.int
      exact .inl ⟨_, rfl, q _ V H (Al.refl sub) (.int _)⟩
    · cases hg
      cases hx.bool
      exact .inr ⟨_, rfl, q _ V H (Al.refl sub) (.int _)⟩
    · cases hg
  · cases hg
def gList : D → Option Res := fun d => (itemsD d).map fun ds => .new (.list ds)
theorem call_list_ok : CallOk K (fun xs H Q => ∃ p ys, xs = [.ref p] ∧ (SqL K H p ys ∨ SqT K H p ys) ∧ ∀ l, H l = none → Q (.ref l) (upd H l (.lst ys))) (c1 gList) := by
  intro V H vs ds res sub hv hg Q q
  unfold c1 at hg
  split at hg
  · obtain ⟨v, rfl, hx⟩ := hv.one
    simp only [gList, Option.map_eq_some_iff] at hg
    obtain ⟨es, h1, rfl⟩ := hg
    rename_i d
    have fin : ∀ (xs : List L2.V), RA K V xs es → ∀ l, H l = none → Q (.ref l) (upd H l (.lst xs)) := fun xs r l hl => q _ _ _ (Al.hid sub hl) ⟨l, rfl, hl, Evl.fresh_back sub hl, xs, upd_same, r⟩
    cases d with
    | list ds =>
      cases h1
      obtain ⟨a, xs, rfl, k1, k2⟩ := hx.list sub
      exact ⟨_, _, rfl, .inl k1, fin xs k2⟩
    | tuple ds =>
      cases h1
      obtain ⟨a, xs, rfl, k1, k2⟩ := hx.tuple
      exact ⟨_, _, rfl, .inr (Evl.ex_t sub k1), fin xs k2⟩
    | _ => cases h1
  · cases hg
def gTuple : D → Option Res := fun d => (itemsD d).map fun ds => .val (.tuple ds)
theorem call_tuple_ok : CallOk K (fun xs H Q => ∃ p ys, xs = [.ref p] ∧ ((SqL K H p ys ∧ ∀ l, H l = none → Q (.ref l) (upd H l (.tup ys))) ∨ (SqT K H p ys ∧ Q (.ref p) H))) (c1 gTuple) := by
  intro V H vs ds res sub hv hg Q q
  unfold c1 at hg
  split at hg
  · obtain ⟨v, rfl, hx⟩ := hv.one
    simp only [gTuple, Option.map_eq_some_iff] at hg
    obtain ⟨es, h1, rfl⟩ := hg
    rename_i d
    cases d with
    | list ds =>
      cases h1
      obtain ⟨a, xs, rfl, k1, k2⟩ := hx.list sub
      exact ⟨_, _, rfl, .inl ⟨k1, fun l hl => by
        have b : Al V H (upd V l (.tup xs)) (upd H l (.tup xs)) := Al.new sub hl
        exact q _ _ _ b (.tuple (Evl.st_of upd_same) (RA.mono b.ex _ _ k2))⟩⟩
    | tuple ds =>
      cases h1
      obtain ⟨a, xs, rfl, k1, k2⟩ := hx.tuple
      exact ⟨_, _, rfl, .inr ⟨Evl.ex_t sub k1, q _ V H (Al.refl sub) (.tuple k1 k2)⟩⟩
    | _ => cases h1
  · cases hg
def boolsOf : List D → Option (List Bool)
  | [] => some []
  | .bool i :: ds => (boolsOf ds).map (i :: ·)
  | _ :: _ => none
theorem boolsOf_eq : ∀ {ds : List D} {bs : List Bool}, boolsOf ds = some bs → ds = bs.map D.bool
  | [], bs, h => by cases h; rfl
  | d :: ds, bs, h => by
    cases d with
    | bool i =>
      simp only [boolsOf, Option.map_eq_some_iff] at h
      obtain ⟨ms, h1, rfl⟩ := h
      rw [boolsOf_eq h1]
      rfl
    | _ => cases h
theorem RA.ofBools : ∀ {bs : List Bool} {vs : List L2.V}, RA K H vs (bs.map D.bool) → vs = bs.map L2.V.bl
  | [], _, h => by cases h; rfl
  | n :: ns, _, h => by
    cases h with
    | cons h1 h2 =>
      cases h1
      rw [RA.ofBools h2]
      rfl
def gAll (all : Bool) : D → Option Res
  | .list ds => (boolsOf ds).map fun bs => .val (.bool (if all then bs.all id else bs.any id))
  | _ => none
theorem call_all_ok : CallOk K (rAll K) (c1 (gAll true)) := by
  intro V H vs ds res sub hv hg Q q
  unfold c1 at hg
  split at hg
  · obtain ⟨v, rfl, hx⟩ := hv.one
    unfold gAll at hg
    split at hg
    · simp only [Option.map_eq_some_iff] at hg
      obtain ⟨bs, h1, rfl⟩ := hg
      obtain ⟨a, xs, rfl, k1, k2⟩ := hx.list sub
      rw [boolsOf_eq h1] at k2
      rw [k2.ofBools] at k1
      exact ⟨a, bs, rfl, k1, q _ V H (Al.refl sub) (.bool _)⟩
    · cases hg
  · cases hg
theorem call_any_ok : CallOk K (rAny K) (c1 (gAll false)) := by
  intro V H vs ds res sub hv hg Q q
  unfold c1 at hg
  split at hg
  · obtain ⟨v, rfl, hx⟩ := hv.one
    unfold gAll at hg
    split at hg
    · simp only [Option.map_eq_some_iff] at hg
      obtain ⟨bs, h1, rfl⟩ := hg
      obtain ⟨a, xs, rfl, k1, k2⟩ := hx.list sub
      rw [boolsOf_eq h1] at k2
      rw [k2.ofBools] at k1
      exact ⟨a, bs, rfl, k1, q _ V H (Al.refl sub) (.bool _)⟩
    · cases hg
  · cases hg
def gSum : D → Option Res
  | .list ds => (intsOf ds).map fun ns => .val (.int ns.sum)
  | _ => none
theorem call_sum_ok : CallOk K (rSum K) (c1 gSum) := by
  intro V H vs ds res sub hv hg Q q
  unfold c1 at hg
  split at hg
  · obtain ⟨v, rfl, hx⟩ := hv.one
    unfold gSum at hg
    split at hg
    · simp only [Option.map_eq_some_iff] at hg
      obtain ⟨bs, h1, rfl⟩ := hg
      obtain ⟨a, xs, rfl, k1, k2⟩ := hx.list sub
      rw [intsOf_eq h1] at k2
      rw [k2.ofInts] at k1
      exact ⟨a, bs, rfl, k1, q _ V H (Al.refl sub) (.int _)⟩
    · cases hg
  · cases hg

/-! ### isinstance -/
def tyName : D → Option String
  | .none => some "NoneType"
  | .bool _ => some "bool"
  | .int _ => some "int"
  | .str _ => some "str"
  | .list _ => some "list"
  | .tuple _ => some "tuple"
  | .dictK _ _ => some "dict"
  | .dictT _ _ => some "dict"
  | .fn _ => none
theorem tyX_of {d : D} {T : String} (h : R K H v d) (e : tyName d = some T) : TyX K H v (.type T) := by
  cases h with
  | none => cases e; exact .base .non
  | bool b => cases e; exact .base (.bl b)
  | int i => cases e; exact .base (.int i)
  | str x => cases e; exact .base (.str x)
  | list hs ha =>
    cases e
    rcases hs with (hs | ⟨o, hs⟩) | ⟨o, its, n, h1, h2, _⟩
    · exact .base (.lst hs)
    · exact .base (.frz hs)
    · exact .kList h1 h2
  | tuple hs ha =>
    cases e
    rcases hs with (hs | ⟨o, hs⟩) | ⟨o, its, n, h1, h2, _⟩
    · exact .base (.tup hs)
    · exact .fTuple hs
    · exact .kTuple h1 h2
  | dictK hs _ _ => cases e; exact .base (.dK hs)
  | dictT hs _ _ => cases e; exact .base (.dT hs)
def isiD (T : String) (d : D) : Option Bool := (tyName d).bind fun S => kitB S T
def iIsi (T : String) (f : EvF) : EvF := fun env => (opd f env).bind fun p => (look p.2 p.1).bind fun d => (isiD T d).bind fun b => some (.val (.bool b), p.2)
theorem sd_isi {f : EvF} {T : String} (ha : Sd K te f) : Sd K (tCB (rIsi K) (tCons te (tCons (tC (.ty T)) tNil))) (iIsi T f) := by
  intro env res env' e σ V H ok Q q
  simp only [iIsi, Option.bind_eq_some_iff] at e
  obtain ⟨⟨ra, e1⟩, h1, d, h3, b, h5, h6⟩ := e
  cases h6
  refine opd_snd ha h1 ok fun x V1 H1 a k1 => ?_
  have op := (k1.look a.ok h3).seen a.ok.sub
  simp only [isiD, Option.bind_eq_some_iff] at h5
  obtain ⟨S, g1, g2⟩ := h5
  exact ⟨x, .ty T, .type S, .type T, b, rfl, .ty T, tyX_of op g1, kit_ty g2, q _ V1 H1 a (.bool b)⟩

/-! ### an owned container is changed -/
theorem adv_upd {i : Nat} {p : Bool} {d d' : D} {l : Addr} {o : HO} (a : Adv K σ env σ1 env1 V H V1 H1) (e : env1[i]? = some (.own p d)) (hl : σ1[i]? = some (some (.ref l))) (hc : OwnC K V1 (upd H1 l o) l d') :
    Adv K σ env σ1 (env1.set i (.own p d')) V H V1 (upd H1 l o) := by
  obtain ⟨l', g1, g2, g3⟩ := a.ok.ownC e
  rw [hl] at g1
  cases g1
  obtain ⟨u, hu⟩ := g3.there
  have hi := (List.getElem?_eq_some_iff.mp e).1
  have own1 : ∀ (j : Nat) (q : Bool) (f : D), (env1.set i (.own p d'))[j]? = some (.own q f) → ∃ f0, env1[j]? = some (.own q f0) := by
    intro j q f h1
    by_cases z : j = i
    · subst z
      rw [List.getElem?_set_self hi] at h1
      cases h1
      exact ⟨d, e⟩
    · rw [List.getElem?_set_ne (fun y => z y.symm)] at h1
      exact ⟨f, h1⟩
  have ol : Own env1 σ1 l := ⟨i, p, d, e, hl⟩
  refine ⟨⟨by rw [List.length_set]; exact a.ok.len, fun b x hb => ?_, fun j w s h1 h2 => ?_, fun j k q q' f f' m h1 h2 h3 h4 => ?_⟩, a.ex, a.fr, fun b x hb n => ?_, fun b hb => ?_, fun m h => ?_, fun m h => ?_, fun j f h => ?_⟩
  · have nb : b ≠ l := fun z => by rw [z, g2] at hb; cases hb
    rw [upd_ne nb]
    exact a.ok.sub b x hb
  · by_cases z : j = i
    · subst z
      rw [List.getElem?_set_self hi] at h2
      cases h2
      rw [hl] at h1
      cases h1
      exact ⟨l, rfl, g2, hc⟩
    · rw [List.getElem?_set_ne (fun y => z y.symm)] at h2
      have q := a.ok.slot j w s h1 h2
      cases s with
      | no => cases w <;> trivial
      | val f =>
        cases w with
        | none => exact q
        | some v => exact q
      | own q2 f =>
        cases w with
        | none => exact q
        | some v =>
          obtain ⟨m, rfl, k1, k2⟩ := q
          have nm : m ≠ l := fun y => by
            subst y
            exact z (a.ok.one j i q2 p f d m h2 e h1 hl)
          exact ⟨m, rfl, k1, k2.mono (Evl.Ex.refl _) (upd_ne nm)⟩
  · obtain ⟨f1, y1⟩ := own1 j q f h1
    obtain ⟨f2, y2⟩ := own1 k q' f' h2
    exact a.ok.one j k q q' f1 f2 m y1 y2 h3 h4
  · have k := a.keep b x hb n
    by_cases z : b = l
    · subst z
      rcases a.own b ol with y | y
      · exact absurd y n
      · rw [hb] at y; cases y
    · rw [upd_ne z]; exact k
  · by_cases z : b = l
    · subst z; rw [upd_same]; exact fun y => by cases y
    · rw [upd_ne z]; exact a.dom b hb
  · obtain ⟨j, q, f, h1, h2⟩ := h
    obtain ⟨f1, y1⟩ := own1 j q f h1
    exact a.own m ⟨j, q, f1, y1, h2⟩
  · obtain ⟨j, f, h1, h2⟩ := h
    obtain ⟨f1, y1⟩ := own1 j false f h1
    exact a.ownL m ⟨j, f1, y1, h2⟩
  · obtain ⟨⟨f1, h1⟩, h2⟩ := a.par j f h
    by_cases z : j = i
    · subst z
      rw [e] at h1
      cases h1
      rw [List.getElem?_set_self hi]
      exact ⟨⟨d', rfl⟩, h2⟩
    · rw [List.getElem?_set_ne (fun y => z y.symm)]
      exact ⟨⟨f1, h1⟩, h2⟩
/-- x.append(e) -/
def iApp (i : Nat) (f : EvF) : StF := fun env => match env[i]? with
  | some (.own _ (.list _)) => (opd f env).bind fun p => (vis p.1).bind fun d => match p.2[i]? with
    | some (.own q (.list ds)) => if ds.length < 100000 then some (.next (p.2.set i (.own q (.list (ds ++ [d]))))) else none
    | _ => none
  | _ => none
theorem sds_app {i : Nat} {f : EvF} (ha : Sd K te f) : SdS K (tDrop (tBM K "list" rAppend (tVar i) (tCons te tNil))) (iApp i f) := by
  intro env fl e σ V H ok E q
  unfold iApp at e
  split at e
  · rename_i p0 d0 he0
    simp only [Option.bind_eq_some_iff] at e
    obtain ⟨⟨r, e1⟩, h1, d, h2, h3⟩ := e
    split at h3
    · rename_i p ds he
      split at h3
      · rename_i hz
        cases h3
        obtain ⟨l0, g1, g2, g3⟩ := ok.ownC he0
        refine ⟨_, g1, ?_, ?_⟩
        · obtain ⟨xs, hx, _⟩ := g3
          exact .inl ⟨rfl, xs, Evl.sq_of hx⟩
        · refine opd_snd ha h1 ok fun v V1 H1 a k => ?_
          obtain ⟨l, y1, y2, xs, y3, y4⟩ := a.ok.ownC he
          rw [g1] at y1
          cases y1
          have rv : R K V1 v d := by
            cases r with
            | val d' => cases h2; exact k
            | new d' => exact k.elim
            | own j => cases h2
          exact ⟨_, xs, v, rfl, rfl, y3, Evl.sz_lt (by rw [y4.len]; exact hz), q σ V1 _ (adv_upd a he g1 ⟨xs ++ [v], upd_same, y4.append (.cons rv .nil)⟩)⟩
      · cases h3
    · cases h3
  · cases e
/-- x.pop() -/
def iPop (i : Nat) : EvF := fun env => match env[i]? with
  | some (.own q (.list ds)) => (ds[ds.length - 1]?).map fun d => (.val d, env.set i (.own q (.list ds.dropLast)))
  | _ => none
theorem RA.dropLast {xs : List L2.V} {ds : List D} (h : RA K V xs ds) : RA K V xs.dropLast ds.dropLast := by
  rw [List.dropLast_eq_take, List.dropLast_eq_take, h.len]
  exact h.take _
theorem sd_pop {i : Nat} : Sd K (tBM0 K "list" rPop (tVar i)) (iPop i) := by
  intro env res env' e σ V H ok Q q
  unfold iPop at e
  split at e
  · rename_i p ds he
    simp only [Option.map_eq_some_iff] at e
    obtain ⟨d, h1, h2⟩ := e
    cases h2
    obtain ⟨l, y1, y2, xs, y3, y4⟩ := ok.ownC he
    refine ⟨_, y1, .inl ⟨rfl, xs, Evl.sq_of y3⟩, ?_⟩
    obtain ⟨z, h2, h3⟩ := y4.get h1
    rw [← y4.len] at h2
    exact ⟨l, xs, z, rfl, rfl, y3, h2, q z V _ (adv_upd (Adv.refl ok) he y1 ⟨xs.dropLast, upd_same, y4.dropLast⟩) h3⟩
  · cases e
/-- x.extend(e), e a list -/
def iExt (i : Nat) (f : EvF) : StF := fun env => match env[i]? with
  | some (.own _ (.list _)) => (f env).bind fun p => match p.1 with
    | .new (.list es) => match p.2[i]? with
      | some (.own q (.list ds)) => if ds.length + es.length ≤ 100000 then some (.next (p.2.set i (.own q (.list (ds ++ es))))) else none
      | _ => none
    | _ => none
  | _ => none
theorem sds_ext {i : Nat} {f : EvF} (ha : Sd K te f) : SdS K (tDrop (tBM K "list" rExtend (tVar i) (tCons te tNil))) (iExt i f) := by
  intro env fl e σ V H ok E q
  unfold iExt at e
  split at e
  · rename_i p0 d0 he0
    simp only [Option.bind_eq_some_iff] at e
    obtain ⟨⟨r, e1⟩, h1, h2⟩ := e
    split at h2
    · rename_i es hr
      have hr' : r = .new (.list es) := hr
      subst hr'
      split at h2
      · rename_i p ds he
        split at h2
        · rename_i hz
          cases h2
          obtain ⟨l0, g1, g2, g3⟩ := ok.ownC he0
          refine ⟨_, g1, ?_, ?_⟩
          · obtain ⟨xs, hx, _⟩ := g3
            exact .inl ⟨rfl, xs, Evl.sq_of hx⟩
          · refine ha _ _ _ h1 σ V H ok _ fun v V1 H1 a k => ?_
            obtain ⟨l, y1, y2, xs, y3, y4⟩ := a.ok.ownC he
            rw [g1] at y1
            cases y1
            obtain ⟨b, rfl, w1, w2, w3, zs, w4, w5⟩ := k
            exact ⟨_, b, xs, zs, rfl, rfl, y3, w4, Evl.sz_of (by rw [y4.len, w5.len]; exact hz), q σ V1 _ (adv_upd a he g1 ⟨xs ++ zs, upd_same, y4.append w5⟩)⟩
        · cases h2
      · cases h2
    · cases h2
  · cases e
/-- x becomes visible: nothing happens -/
def iFrz (i : Nat) : StF := fun env => match env[i]? with
  | some (.own false d) => some (.next (env.set i (.val d)))
  | some (.val _) => some (.next env)
  | _ => none
theorem adv_frz {i : Nat} {d : D} (a : Adv K σ env σ1 env1 V H V1 H1) (e : env1[i]? = some (.own false d)) : ∃ V2, Adv K σ env σ1 (env1.set i (.val d)) V H V2 H1 := by
  obtain ⟨l, g1, g2, g3⟩ := a.ok.ownC e
  have hi := (List.getElem?_eq_some_iff.mp e).1
  have a2 := adv_no a e fun d z => by cases z
  have nO : ¬ Own (env1.set i .no) σ1 l := by
    rintro ⟨j, p, d', z1, z2⟩
    by_cases qj : j = i
    · subst qj
      rw [List.getElem?_set_self hi] at z1
      cases z1
    · rw [List.getElem?_set_ne (fun z => qj z.symm)] at z1
      exact qj (a.ok.one j i p false d' d l z1 e z2 g1)
  obtain ⟨V2, a3, r⟩ := a2.show ((a.ownL l ⟨i, d, e, g1⟩).elim .inr .inl) g2 nO g3
  refine ⟨V2, ?_⟩
  have hs : σ1.set i (some (.ref l)) = σ1 := by
    apply List.ext_getElem?
    intro j
    by_cases qj : j = i
    · subst qj
      rw [List.getElem?_set_self (by rw [a.ok.len]; exact hi), g1]
    · rw [List.getElem?_set_ne (fun z => qj z.symm)]
  have a4 := adv_set (i := i) (s := .val d) (env2 := (env1.set i .no).set i (.val d)) a3 (by
    unfold setV
    rw [List.getElem?_set_self hi]) (show SlOk K V2 H1 (some (.ref l)) (.val d) from r) fun p d' l z => by cases z
  rw [hs, List.set_set] at a4
  exact a4
theorem sds_frz {i : Nat} {t : TS} {g : StF} (h : SdS K t g) : SdS K t (iSeq (iFrz i) g) := by
  intro env fl e σ V H ok E q
  unfold iSeq at e
  cases hf : iFrz i env with
  | none => rw [hf] at e; cases e
  | some f0 =>
    rw [hf] at e
    unfold iFrz at hf
    split at hf
    · rename_i d hd
      cases hf
      obtain ⟨V2, a⟩ := adv_frz (Adv.refl ok) hd
      exact h _ _ e σ V2 H a.ok E (q.of a)
    · cases hf
      exact h _ _ e σ V H ok E q
    · cases hf
end
end DL

namespace DL
open PySem PySem.Spec PyProof.Rows L2
open Evl (Ex)

/-! ### a walk over a list or a tuple -/
theorem pi_sq {X : Cx} {tg l : Expr} {tl : TE} (hl : PE X l tl) : PI X tg l (iSq X.K tl) := by
  constructor
  intro pins s σ H R I h
  apply thn (hl.run pins s σ H _ I h)
  rintro v s1 ⟨x, H1, I1, r1, a, rfl, q⟩
  cases r1
  have ev : ∀ (it : Obj) (b : Addr) (o : Obj), s1.heap.get? b = some o → (s1.heap.push it).get? b = some o := fun it b o e => Heap.get?_push_of_some _ e
  have one : ∀ (b : Addr), b ∈ [s1.heap.objs.size] → FpOk X pins H1 b := by
    intro b hb
    have hb' : b = s1.heap.objs.size := by simpa using hb
    rw [hb']
    exact I1.fpOk (Nat.le_refl _) (I1.hok.fresh (Nat.le_refl _))
  rcases q with ⟨⟨xs, hx⟩, q⟩ | ⟨⟨xs, hx⟩, q⟩
  · obtain ⟨its, _, pl, _⟩ := I1.list hx
    apply wpAny_pyIter_list pl.isList
    exact ⟨s1.heap.objs.size, [s1.heap.objs.size], _, _, H1, rfl, I1.kept (t' := s1.toks) (ev _),
      turn_list a _, ⟨_, Heap.get?_push_size _ rfl, rfl, rfl⟩, one, q⟩
  · obtain ⟨its, _, pl, _⟩ := I1.tuple hx
    apply wpAny_pyIter_tuple (show s1.heap.IsTuple a its.toArray from pl)
    exact ⟨s1.heap.objs.size, [s1.heap.objs.size], _, _, H1, rfl, I1.kept (t' := s1.toks) (ev _),
      turn_tuple a _, ⟨_, Heap.get?_push_size _ rfl, rfl, rfl⟩, one, q⟩

section
variable {K : PySem.W.Frag} {σ σ1 : L2.St} {env env1 env2 : Nv} {V H V1 H1 V2 H2 : Hp} {v : L2.V} {te ta tb : TE}
/-! ### comprehensions -/
def wipeN (env : Nv) : List Nat → Option Nv
  | [] => some env
  | v :: vs => (wipeN env vs).bind fun e => match e[v]? with
    | some (.own true _) => none
    | some _ => some (e.set v .no)
    | none => none
theorem adv_none {i : Nat} (a : Adv K σ env σ1 env1 V H V1 H1) (e : env1[i]? = some .no) : Adv K σ env (σ1.set i none) env1 V H V1 H1 := by
  have ow : ∀ (j : Nat) (p : Bool) (d : D) (l : Addr), env1[j]? = some (.own p d) → (σ1.set i none)[j]? = some (some (.ref l)) → σ1[j]? = some (some (.ref l)) := by
    intro j p d l h1 h2
    by_cases q : j = i
    · subst q; rw [e] at h1; cases h1
    · rw [List.getElem?_set_ne (fun z => q z.symm)] at h2; exact h2
  refine ⟨⟨by rw [List.length_set]; exact a.ok.len, a.ok.sub, fun j o s h1 h2 => ?_, fun j k p q d d' l h1 h2 h3 h4 => a.ok.one j k p q d d' l h1 h2 (ow j p d l h1 h3) (ow k q d' l h2 h4)⟩, a.ex, a.fr, a.keep, a.dom, fun l h => ?_, fun l h => ?_, fun j d h => ?_⟩
  · by_cases q : j = i
    · subst q
      rw [e] at h2
      cases h2
      cases o <;> trivial
    · rw [List.getElem?_set_ne (fun z => q z.symm)] at h1
      exact a.ok.slot j o s h1 h2
  · obtain ⟨j, p, d, h1, h2⟩ := h
    exact a.own l ⟨j, p, d, h1, ow j p d l h1 h2⟩
  · obtain ⟨j, d, h1, h2⟩ := h
    exact a.ownL l ⟨j, d, h1, ow j false d l h1 h2⟩
  · obtain ⟨⟨d', h1⟩, h2⟩ := a.par j d h
    have q : j ≠ i := fun z => by subst z; rw [e] at h1; cases h1
    rw [List.getElem?_set_ne (fun z => q z.symm)]
    exact ⟨⟨d', h1⟩, h2⟩
/-- the slots' values are forgotten where nothing is said of them -/
theorem adv_wipe : ∀ {vs : List Nat} {env2 : Nv}, Adv K σ env σ1 env1 V H V1 H1 → wipeN env1 vs = some env2 → Adv K σ env (wipe σ1 vs) env2 V H V1 H1 ∧ Adv K σ env σ1 env2 V H V1 H1
  | [], env2, a, e => by cases e; exact ⟨a, a⟩
  | v :: vs, env2, a, e => by
    simp only [wipeN, Option.bind_eq_some_iff] at e
    obtain ⟨e1, h1, h2⟩ := e
    obtain ⟨b, b'⟩ := adv_wipe a h1
    split at h2
    · cases h2
    · rename_i s hne hs
      cases h2
      have hv := (List.getElem?_eq_some_iff.mp hs).1
      have n : ∀ d, s ≠ .own true d := fun d z => by subst z; exact hne d rfl
      exact ⟨adv_none (adv_no b hs n) (List.getElem?_set_self hv), adv_no b' hs n⟩
    · cases h2
def lcLoop (g : TgF) (c : EvT) (f : EvF) (vs : List Nat) : List D → Nv → List D → Option (List D × Nv)
  | [], env, acc => some (acc, env)
  | d :: ds, env, acc => (g env d).bind fun e1 => (c e1).bind fun p => if p.1 = true then
      (opd f p.2).bind fun q => (vis q.1).bind fun y => (wipeN q.2 vs).bind fun e3 => if acc.length < 100000 then lcLoop g c f vs ds e3 (acc ++ [y]) else none
    else (wipeN p.2 vs).bind fun e3 => lcLoop g c f vs ds e3 acc
def iLc (it : ItF) (g : TgF) (c : EvT) (f : EvF) (vs : List Nat) : EvF := fun env => (it env).bind fun p => (wipeN p.2 vs).bind fun e1 => (lcLoop g c f vs p.1 e1 []).bind fun q => some (.new (.list q.1), q.2)
/-- the slots in vs alone have changed -/
def SdGv (K : PySem.W.Frag) (t : TG) (g : TgF) (vs : List Nat) : Prop := ∀ env d env', g env d = some env' → ∀ (σ : L2.St) (V H : Hp) (v : L2.V), NvOk K V H σ env → R K V v d →
  ∀ Q : L2.St → Hp → Prop, (∀ σ', Adv K σ env σ' env' V H V H → wipe σ' vs = wipe σ vs → Q σ' H) → t v σ H Q
theorem wipe_set {σ : L2.St} {i : Nat} {x : Option L2.V} : ∀ {vs : List Nat}, i ∈ vs → wipe (σ.set i x) vs = wipe σ vs := by
  have comm : ∀ {τ : L2.St} {a b : Nat} {u w : Option L2.V}, a ≠ b → (τ.set a u).set b w = (τ.set b w).set a u := fun h => List.set_comm _ _ h
  have out : ∀ {vs : List Nat} {τ : L2.St}, i ∉ vs → wipe (τ.set i x) vs = (wipe τ vs).set i x := by
    intro vs
    induction vs with
    | nil => intro τ _; rfl
    | cons v vs ih =>
      intro τ h
      show (wipe (τ.set i x) vs).set v none = ((wipe τ vs).set v none).set i x
      rw [ih (fun z => h (List.mem_cons_of_mem _ z)), List.set_comm _ _ (fun z => h (by rw [z]; exact List.mem_cons_self))]
  intro vs
  induction vs with
  | nil => intro h; cases h
  | cons v vs ih =>
    intro h
    show (wipe (σ.set i x) vs).set v none = (wipe σ vs).set v none
    by_cases q : i ∈ vs
    · rw [ih q]
    · have e : i = v := (List.mem_cons.mp h).elim id fun z => absurd z q
      subst e
      rw [out q, List.set_set]
theorem wipe_wipe {σ : L2.St} : ∀ {vs : List Nat}, wipe (wipe σ vs) vs = wipe σ vs := by
  have gen : ∀ (ws vs : List Nat) (τ : L2.St), (∀ w ∈ ws, w ∈ vs) → wipe (wipe τ ws) vs = wipe τ vs := by
    intro ws
    induction ws with
    | nil => intro vs τ _; rfl
    | cons w ws ih =>
      intro vs τ h
      show wipe ((wipe τ ws).set w none) vs = wipe τ vs
      rw [wipe_set (h w List.mem_cons_self), ih vs τ fun z hz => h z (List.mem_cons_of_mem _ hz)]
  intro vs
  exact gen vs vs σ fun _ h => h
theorem sdgv_name {i : Nat} {vs : List Nat} (h : i ∈ vs) : SdGv K (gName i) (iNm i) vs := by
  intro env d env' e σ V H v ok r Q q
  exact q _ (adv_set (Adv.refl ok) e r fun p d l z => by cases z) (wipe_set h)
def SdGsv (K : PySem.W.Frag) (t : TGs) (g : TgsF) (vs : List Nat) : Prop := ∀ env ds env', g env ds = some env' → ∀ (σ : L2.St) (V H : Hp) (xs : List L2.V), NvOk K V H σ env → RA K V xs ds →
  ∀ Q : L2.St → Hp → Prop, (∀ σ', Adv K σ env σ' env' V H V H → wipe σ' vs = wipe σ vs → Q σ' H) → t xs σ H Q
theorem sdgsv_nil {vs : List Nat} : SdGsv K gNil iGN vs := by
  intro env ds env' e σ V H xs ok r Q q
  cases r with
  | nil => cases e; exact ⟨rfl, q σ (Adv.refl ok) rfl⟩
  | cons _ _ => cases e
theorem sdgsv_cons {t : TG} {ts : TGs} {g : TgF} {gs : TgsF} {vs : List Nat} (h1 : SdGv K t g vs) (h2 : SdGsv K ts gs vs) : SdGsv K (gCons t ts) (iGC g gs) vs := by
  intro env ds env' e σ V H xs ok r Q q
  cases r with
  | nil => cases e
  | @cons v xs d ds ra rb =>
    simp only [iGC, Option.bind_eq_some_iff] at e
    obtain ⟨e1, k1, k2⟩ := e
    exact ⟨v, xs, rfl, h1 _ _ _ k1 σ V H v ok ra _ fun σ' a w => h2 _ _ _ k2 σ' V H xs a.ok rb Q fun σ2 a2 w2 => q σ2 (a.trans a2) (w2.trans w)⟩
theorem sdgv_tup {ts : TGs} {gs : TgsF} {n : Nat} {vs : List Nat} (h : SdGsv K ts gs vs) : SdGv K (gBoth K n ts) (iGT gs n) vs := by
  intro env d env' e σ V H v ok r Q q
  cases d with
  | tuple ds =>
    simp only [iGT] at e
    split at e
    · rename_i hn
      cases r with
      | @tuple a xs _ hs ha => exact .inl ⟨a, xs, rfl, Evl.ex_t ok.sub hs, by rw [ha.len]; exact hn, h _ _ _ e σ V H xs ok ha Q q⟩
    · cases e
  | list ds =>
    simp only [iGT] at e
    split at e
    · rename_i hn
      cases r with
      | @list a xs _ hs ha => exact .inr ⟨a, xs, rfl, Evl.ex_l ok.sub hs, by rw [ha.len]; exact hn, h _ _ _ e σ V H xs ok ha Q q⟩
    · cases e
  | _ => cases e
/-- the new list of a comprehension grows -/
theorem adv_grow {Dl : Addr} {o : HO} (a : Adv K σ env σ1 env1 V H V1 H1) (h0 : H Dl = none) (hv : V1 Dl = none) (hn : ¬ Own env1 σ1 Dl) : Adv K σ env σ1 env1 V H V1 (upd H1 Dl o) := by
  refine ⟨⟨a.ok.len, fun b x hb => ?_, fun j w s h1 h2 => ?_, a.ok.one⟩, a.ex, a.fr, fun b x hb n => ?_, fun b hb => ?_, a.own, a.ownL, a.par⟩
  · have nb : b ≠ Dl := fun z => by rw [z, hv] at hb; cases hb
    rw [upd_ne nb]
    exact a.ok.sub b x hb
  · have q := a.ok.slot j w s h1 h2
    cases s with
    | no => cases w <;> trivial
    | val f => cases w <;> exact q
    | own p f =>
      cases w with
      | none => exact q
      | some x =>
        obtain ⟨m, rfl, k1, k2⟩ := q
        have nm : m ≠ Dl := fun y => by subst y; exact hn ⟨j, p, f, h2, h1⟩
        exact ⟨m, rfl, k1, k2.mono (Evl.Ex.refl _) (upd_ne nm)⟩
  · have nb : b ≠ Dl := fun z => by rw [z, h0] at hb; cases hb
    rw [upd_ne nb]
    exact a.keep b x hb n
  · by_cases z : b = Dl
    · subst z; exact absurd h0 hb
    · rw [upd_ne z]; exact a.dom b hb
theorem adv_hid {Dl : Addr} {o : HO} (a : Adv K σ1 env1 σ1 env2 V1 H1 V2 H2) (h0 : H1 Dl = some o) (hv : V1 Dl = none) (hn : ¬ Own env1 σ1 Dl) : H2 Dl = some o ∧ V2 Dl = none := by
  refine ⟨a.keep Dl o h0 hn, ?_⟩
  cases y : V2 Dl with
  | none => rfl
  | some o2 =>
    rcases a.fr Dl (by rw [y]; exact fun z => by cases z) with m | m | m
    · exact absurd hv m
    · rw [h0] at m; cases m
    · exact absurd m.own hn
theorem wipe_out {j : Nat} : ∀ {vs : List Nat}, j ∉ vs → (wipe σ vs)[j]? = σ[j]?
  | [], _ => rfl
  | v :: vs, h => by
    show ((wipe σ vs).set v none)[j]? = σ[j]?
    rw [List.getElem?_set_ne (fun z => h (by rw [z]; exact List.mem_cons_self)), wipe_out fun z => h (List.mem_cons_of_mem _ z)]
theorem wipeN_clean : ∀ {vs : List Nat} {e : Nv}, wipeN env vs = some e → ∀ j, j ∈ vs → e[j]? = some .no
  | [], _, _, _, h => by cases h
  | v :: vs, e, h, j, hj => by
    simp only [wipeN, Option.bind_eq_some_iff] at h
    obtain ⟨e1, h1, h2⟩ := h
    split at h2
    · cases h2
    · rename_i s hne hs
      cases h2
      have hv := (List.getElem?_eq_some_iff.mp hs).1
      by_cases q : j = v
      · subst q
        exact List.getElem?_set_self hv
      · rw [List.getElem?_set_ne (fun z => q z.symm)]
        exact wipeN_clean h1 j ((List.mem_cons.mp hj).elim (fun z => absurd z q) id)
    · cases h2
theorem own_orig {vs : List Nat} {e : Nv} {l : Addr} (cl : ∀ j, j ∈ vs → e[j]? = some .no) (h : Own e σ l) : Own e (wipe σ vs) l := by
  obtain ⟨j, p, d, z1, z2⟩ := h
  have hj : j ∉ vs := fun w => by rw [cl j w] at z1; cases z1
  exact ⟨j, p, d, z1, by rw [wipe_out hj]; exact z2⟩
theorem adv_orig {vs : List Nat} {e : Nv} (a : Adv K σ env (wipe σ vs) e V H V1 H1) (cl : ∀ j, j ∈ vs → e[j]? = some .no) : Adv K σ env σ e V H V1 H1 := by
  have ow : ∀ (j : Nat) (p : Bool) (d : D), e[j]? = some (.own p d) → (wipe σ vs)[j]? = σ[j]? := fun j p d h => wipe_out fun w => by rw [cl j w] at h; cases h
  refine ⟨⟨by rw [← wipe_length σ vs]; exact a.ok.len, a.ok.sub, fun j o s h1 h2 => ?_, fun j k p q d d' l h1 h2 h3 h4 => a.ok.one j k p q d d' l h1 h2 (by rw [ow j p d h1]; exact h3) (by rw [ow k q d' h2]; exact h4)⟩, a.ex, a.fr, a.keep, a.dom, fun l h => a.own l (own_orig cl h), fun l h => ?_, fun j d h => ⟨(a.par j d h).1, rfl⟩⟩
  · by_cases q : j ∈ vs
    · rw [cl j q] at h2
      cases h2
      cases o <;> trivial
    · exact a.ok.slot j o s (by rw [wipe_out q]; exact h1) h2
  · obtain ⟨j, d, z1, z2⟩ := h
    exact a.ownL l ⟨j, d, z1, by rw [ow j false d z1]; exact z2⟩
theorem sd_lc {wi : TI} {it : ItF} {tg : TG} {g : TgF} {tt : TT} {c : EvT} {f : EvF} {vs : List Nat} (hi : SdI K wi it) (hg : SdGv K tg g vs) (hc : SdT K tt c) (hf : Sd K te f) : Sd K (tLc wi tg tt te vs) (iLc it g c f vs) := by
  intro env res env' e σ V H ok Q q
  simp only [iLc, Option.bind_eq_some_iff] at e
  obtain ⟨⟨ds, e0⟩, h1, e1, h2, ⟨out, e2⟩, h3, h4⟩ := e
  cases h4
  refine hi _ _ _ h1 σ V H ok _ fun J V' H' a mk Dl hD => ?_
  obtain ⟨aw, as⟩ := adv_wipe a h2
  have vD : V' Dl = none := Evl.fresh_back a.ok.sub hD
  have hD0 : H Dl = none := by
    cases y : H Dl with
    | none => rfl
    | some o => exact absurd hD (a.dom Dl (by rw [y]; exact fun z => by cases z))
  -- a state of the comprehension: σ stands, the block's slots are wiped
  refine mk.2 tg tt te vs Dl (fun i V1 H1 => ∃ env1 acc xs, Adv K σ env (wipe σ vs) env1 V H V1 H1 ∧ Adv K σ env σ env1 V H V1 H1 ∧ Ex V' V1 ∧ V1 Dl = none ∧ ¬ Own env1 (wipe σ vs) Dl ∧ H1 Dl = some (.lst xs) ∧ RA K V1 xs acc ∧ (∀ j, j ∈ vs → env1[j]? = some .no) ∧ lcLoop g c f vs (ds.drop i) env1 acc = some (out, e2)) _ ?_ ?_ ?_ ?_
  · have nO : ¬ Own e1 (wipe σ vs) Dl := aw.ok.notOwn hD
    have nO2 : ¬ Own e1 σ Dl := as.ok.notOwn hD
    exact ⟨e1, [], [], adv_grow aw hD0 vD nO, adv_grow as hD0 vD nO2, Evl.Ex.refl _, vD, nO, upd_same, .nil, wipeN_clean h2, h3⟩
  · rintro i V1 H1 ⟨env1, acc, xs, b, b', x, _⟩
    exact ⟨x, b.ok.sub⟩
  · rintro i d V1 H1 hd ⟨env1, acc, xs, b, b', x1, d1, d2, d3, d4, d5, hl⟩ x V2 H2 al r
    have e0' : ds.drop i = d :: ds.drop (i + 1) := by
      obtain ⟨hlt, rfl⟩ := List.getElem?_eq_some_iff.mp hd
      exact List.drop_eq_getElem_cons hlt
    rw [e0'] at hl
    simp only [lcLoop, Option.bind_eq_some_iff] at hl
    obtain ⟨e3, g1, ⟨bb, e4⟩, g2, g3⟩ := hl
    have b2 := al.adv b.ok
    refine hg _ _ _ g1 (wipe σ vs) V2 H2 x b2.ok r _ fun σ3 a3 w3 => ⟨by rw [w3, wipe_wipe], ?_⟩
    refine hc _ _ _ g2 σ3 V2 H2 a3.ok _ fun V4 H4 a4 => ?_
    have a5 := (b2.trans a3).trans a4
    -- behind the turn: the slots wiped again, or as they stood ahead
    have back : ∀ (V5 H5 : Hp) (e5 e6 : Nv), Adv K (wipe σ vs) env1 σ3 e5 V1 H1 V5 H5 → wipeN e5 vs = some e6 → Adv K (wipe σ vs) env1 (wipe σ vs) e6 V1 H1 V5 H5 := by
      intro V5 H5 e5 e6 a6 hw
      have a7 := (adv_wipe a6 hw).1
      rw [w3, wipe_wipe] at a7
      exact a7
    cases bb with
    | true =>
      rw [if_pos rfl]
      rw [if_pos rfl] at g3
      simp only [Option.bind_eq_some_iff] at g3
      obtain ⟨⟨rr, e5⟩, g4, y, g5, e6, g6, g7⟩ := g3
      split at g7
      · rename_i hz
        refine opd_snd hf g4 a4.ok fun z V5 H5 a6 k => ?_
        have a7 := a5.trans a6
        have a8 := back V5 H5 e5 e6 a7 g6
        obtain ⟨y1, y2⟩ := adv_hid a8 d3 d1 d2
        have rz : R K V5 z y := by
          cases rr with
          | val d' => cases g5; exact k
          | new d' => exact k.elim
          | own j => cases g5
        have a9 := b.trans a8
        have nO : ¬ Own e6 (wipe σ vs) Dl := fun w => by
          rcases a8.own Dl w with m | m
          · exact d2 m
          · rw [d3] at m; cases m
        have clean := wipeN_clean g6
        have a10 : Adv K σ env σ e6 V H V5 H5 := adv_orig a9 clean
        refine ⟨xs, y1, Evl.sz_lt (by rw [d4.len]; exact hz), V5, e6, acc ++ [y], xs ++ [z], adv_grow a9 hD0 y2 nO, adv_grow a10 hD0 y2 ?_, x1.trans a8.ex, y2, nO, upd_same, (RA.mono a8.ex _ _ d4).append (.cons rz .nil), clean, g7⟩
        exact fun w => nO (own_orig clean w)
      · cases g7
    | false =>
      rw [if_neg Bool.false_ne_true]
      rw [if_neg Bool.false_ne_true] at g3
      simp only [Option.bind_eq_some_iff] at g3
      obtain ⟨e6, g6, g7⟩ := g3
      have a8 := back V4 H4 e4 e6 a5 g6
      obtain ⟨y1, y2⟩ := adv_hid a8 d3 d1 d2
      have a9 := b.trans a8
      have nO : ¬ Own e6 (wipe σ vs) Dl := fun w => by
        rcases a8.own Dl w with m | m
        · exact d2 m
        · rw [d3] at m; cases m
      have clean := wipeN_clean g6
      exact ⟨V4, e6, acc, xs, a9, adv_orig a9 clean, x1.trans a8.ex, y2, nO, y1, RA.mono a8.ex _ _ d4, clean, g7⟩
  · rintro V1 H1 ⟨env1, acc, xs, b, b', x, d1, d2, d3, d4, d5, hl⟩
    rw [List.drop_length] at hl
    cases hl
    exact q _ V1 H1 b' ⟨Dl, rfl, .inl hD0, d1, fun w => d2 (own_orig d5 w), xs, d3, d4⟩
end
end DL

namespace DL
open PySem PySem.Spec PyProof.Rows L2
open Evl (Ex)

theorem hu64 {A : Around} {k : Nat} (hr : Room k A) : A.units + 64 < cLine := by have := hr.un; omega
theorem hu0 {A : Around} {k : Nat} (hr : Room k A) : A.units < cLine := by have := hr.un; omega
section
variable {X : Cx} {k : Nat} {a b e l : Expr} {es : List Expr} {pos p p2 : Pos} {fa fb f : EvF} {fs : EvA}
/-! ### expressions -/
theorem pdVar (i : Nat) {x : Str} (hN : X.N[i]? = some x := by rfl) (hv : Vis X.env.scope x := by first | exact Or.inl rfl | exact Or.inr (Or.inl rfl) | exact Or.inr (Or.inr rfl)) (hd : (x == ("__debug__" : Str)) = false := by decide)
    (hcd : (x == ("__classdict__" : Str)) = false := by decide) : PD X (.Name x pos) (iVar i) := ⟨_, pe_var hN hv hd hcd, sd_var i⟩
theorem pdInt {i : Int} {j : Nat} : PD X (.Constant (.int i) j pos) (iCon (.int i)) := ⟨_, pe_int, sd_con (.int i)⟩
theorem pdBool {i : Bool} {j : Nat} : PD X (.Constant (.bool i) j pos) (iCon (.bool i)) := ⟨_, pe_bl, sd_con (.bool i)⟩
theorem pdNone {j : Nat} : PD X (.Constant .none j pos) (iCon .none) := ⟨_, pe_non, sd_con .none⟩
theorem pdStr {s : Str} {j : Nat} : PD X (.Constant (.str s) j pos) (iCon (.str s)) := ⟨_, pe_str, sd_con (.str s)⟩
theorem pdGlob {x : Str} {u : Value} {v : L2.V} {d : D} (hg : Gl X x) (hm : X.mg x = some u) (r : RelV v u) (h : R X.K (fun _ => none) v d) (hd : (x == ("__debug__" : Str)) = false := by decide) : PD X (.Name x pos) (iCon d) := ⟨_, pe_glob hg hm r hd, sd_con h⟩
theorem pdBin {op : Operator} {r : R2} {g : D → D → Option Res} (ho : OpR X (binaryOp op) r) (hB : BinOk X.K r g) (ha : PD X a fa) (hb : PD X b fb) : PD X (.BinOp a op b pos) (iBin g fa fb) :=
  let ⟨_, h1, k1⟩ := ha; let ⟨_, h2, k2⟩ := hb; ⟨_, pe_op ho h1 h2, sd_bin hB k1 k2⟩
def gAdd : D → D → Option Res := alt (oI fun i j => some (.int (i + j))) (alt gAddS gCatT)
theorem pdAdd (ha : PD X a fa) (hb : PD X b fb) : PD X (.BinOp a .Add b pos) (iBin gAdd fa fb) :=
  pdBin (opOr op_add (opOr op_add_str op_catA)) (binOr (bin_I0 fun _ _ _ => .int _) (binOr bin_addS bin_catT)) ha hb
def gSub : D → D → Option Res := oI fun i j => some (.int (i - j))
theorem pdSub (ha : PD X a fa) (hb : PD X b fb) : PD X (.BinOp a .Sub b pos) (iBin gSub fa fb) := pdBin op_sub (bin_I0 fun _ _ _ => .int _) ha hb
def mulC (i j : Int) : Bool := (decide (-(2 ^ 64) < i) && decide (i < 2 ^ 64)) || (decide (-(2 ^ 64) < j) && decide (j < 2 ^ 64))
def gMul : D → D → Option Res := oI fun i j => if mulC i j = true then some (.int (i * j)) else none
theorem pdMul (ha : PD X a fa) (hb : PD X b fb) : PD X (.BinOp a .Mult b pos) (iBin gMul fa fb) :=
  pdBin op_mul (bin_I (c := mulC) (fun i j h => by
    simp only [mulC, Bool.or_eq_true, Bool.and_eq_true, decide_eq_true_eq] at h
    exact h) fun _ _ _ => .int _) ha hb
def sm (j : Int) : Bool := decide (-(2 ^ 64) < j) && decide (j < 2 ^ 64)
def gMulR : D → D → Option Res := oI fun i j => if sm j = true then some (.int (i * j)) else none
def gMulL : D → D → Option Res := oI fun i j => if sm i = true then some (.int (i * j)) else none
theorem pdMulR (ha : PD X a fa) (hb : PD X b fb) : PD X (.BinOp a .Mult b pos) (iBin gMulR fa fb) :=
  pdBin op_mul (bin_I (c := fun _ j => sm j) (fun i j h => by
    simp only [sm, Bool.and_eq_true, decide_eq_true_eq] at h
    exact .inr h) fun _ _ _ => .int _) ha hb
theorem pdMulL (ha : PD X a fa) (hb : PD X b fb) : PD X (.BinOp a .Mult b pos) (iBin gMulL fa fb) :=
  pdBin op_mul (bin_I (c := fun i _ => sm i) (fun i j h => by
    simp only [sm, Bool.and_eq_true, decide_eq_true_eq] at h
    exact .inl h) fun _ _ _ => .int _) ha hb
def gDiv : D → D → Option Res := oI fun i j => if (decide (0 < j) && decide (j < 2 ^ 64)) = true then some (.int (i / j)) else none
theorem pdDiv (ha : PD X a fa) (hb : PD X b fb) : PD X (.BinOp a .FloorDiv b pos) (iBin gDiv fa fb) :=
  pdBin op_fdivW (bin_I (c := fun _ j => decide (0 < j) && decide (j < 2 ^ 64)) (fun i j h => by
    simp only [Bool.and_eq_true, decide_eq_true_eq] at h
    exact wide_div (b := 64) h.1 (by omega) (by decide) (by decide)) fun _ _ _ => .int _) ha hb
def gMod : D → D → Option Res := oI fun i j => if decide (0 < j) = true then some (.int (i % j)) else none
theorem pdMod (ha : PD X a fa) (hb : PD X b fb) : PD X (.BinOp a .Mod b pos) (iBin gMod fa fb) :=
  pdBin op_mod (bin_I (c := fun _ j => decide (0 < j)) (fun i j h => of_decide_eq_true h) fun _ _ _ => .int _) ha hb
def gPow : D → D → Option Res := oI fun i j => if (decide (0 ≤ j) && decide (j ≤ 1000) && decide (i.natAbs < 2 ^ 64)) = true then some (.int (i ^ j.toNat)) else none
theorem pdPow (ha : PD X a fa) (hb : PD X b fb) : PD X (.BinOp a .Pow b pos) (iBin gPow fa fb) :=
  pdBin op_pow (bin_I (c := fun i j => decide (0 ≤ j) && decide (j ≤ 1000) && decide (i.natAbs < 2 ^ 64)) (fun i j h => by
    simp only [Bool.and_eq_true, decide_eq_true_eq] at h
    exact ⟨h.1.1, by omega, h.2⟩) fun _ _ _ => .int _) ha hb
def gNeg : D → Option Res
  | .int i => some (.val (.int (-i)))
  | _ => none
theorem un_neg_ok {K : PySem.W.Frag} : UnOk K (rU fun i => .int (-i)) gNeg := by
  intro V H x d res sub hx hg Q q
  unfold gNeg at hg
  split at hg
  · cases hg
    cases hx.int
    exact ⟨_, rfl, q _ V H (Al.refl sub) (.int _)⟩
  · cases hg
theorem pdNeg (ha : PD X a fa) : PD X (.UnaryOp .USub a pos) (iUn gNeg fa) := let ⟨_, h1, k1⟩ := ha; ⟨_, pe_un un_neg h1, sd_un un_neg_ok k1⟩
/-! comparisons -/
theorem pdCmp {op : CmpOp} {r : R2} {g : D → D → Option Res} (ho : OpR X (compareOp op) r) (hB : BinOk X.K r g) (hm : behindInMarks op b = false) (ha : PD X a fa) (hb : PD X b fb) : PD X (.Compare a [op] [b] pos) (iBin g fa fb) :=
  let ⟨_, h1, k1⟩ := ha; let ⟨_, h2, k2⟩ := hb; ⟨_, pe_cmpR ho h1 h2 hm, sd_bin hB k1 k2⟩
theorem tdCmp {op : CmpOp} {r : R2} {g : D → D → Option Res} (ho : OpR X (compareOp op) r) (hB : BinOk X.K r g) (hm : behindInMarks op b = false) (ha : PD X a fa) (hb : PD X b fb) : TD X (.Compare a [op] [b] pos) (iTst (iBin g fa fb)) :=
  let ⟨_, h1, k1⟩ := ha; let ⟨_, h2, k2⟩ := hb; ⟨_, pt_cmpR ho h1 h2 hm, sdt_test (sd_bin hB k1 k2)⟩
def gLt : D → D → Option Res := alt (oI fun i j => some (.bool (decide (i < j)))) gLtT
def gLe : D → D → Option Res := oI fun i j => some (.bool (decide (i ≤ j)))
def gGt : D → D → Option Res := oI fun i j => some (.bool (decide (j < i)))
def gGe : D → D → Option Res := oI fun i j => some (.bool (decide (j ≤ i)))
theorem oLt (hr : Room k X.A) : ∃ r, OpR X (compareOp .Lt) r ∧ BinOk X.K r gLt := ⟨_, opOr op_lt (op_ltT (hu0 hr)), binOr (bin_I0 fun _ _ _ => .bool _) bin_ltT⟩
theorem oLe : ∃ r, OpR X (compareOp .LtE) r ∧ BinOk X.K r gLe := ⟨_, op_le, bin_I0 fun _ _ _ => .bool _⟩
theorem oGt : ∃ r, OpR X (compareOp .Gt) r ∧ BinOk X.K r gGt := ⟨_, op_gt, bin_I0 fun _ _ _ => .bool _⟩
theorem oGe : ∃ r, OpR X (compareOp .GtE) r ∧ BinOk X.K r gGe := ⟨_, op_ge, bin_I0 fun _ _ _ => .bool _⟩
theorem oEq (hr : Room k X.A) : ∃ r, OpR X (compareOp .Eq) r ∧ BinOk X.K r gEq := ⟨_, opOr op_eq (op_eqD (hu64 hr)), bin_eq⟩
theorem oNe (hr : Room k X.A) : ∃ r, OpR X (compareOp .NotEq) r ∧ BinOk X.K r gNe := ⟨_, opOr op_ne (op_neD (hu64 hr)), bin_ne⟩
theorem oIs : ∃ r, OpR X (compareOp .Is) r ∧ BinOk X.K r gIs := ⟨_, op_isN, bin_is⟩
theorem oIsN : ∃ r, OpR X (compareOp .IsNot) r ∧ BinOk X.K r gIsN := ⟨_, op_notN, bin_isN⟩
theorem oIn : ∃ r, OpR X (compareOp .In) r ∧ BinOk X.K r (alt (gIn false) (gInS false)) := ⟨_, opOr op_in_seq op_in_str, binOr bin_in bin_inS⟩
theorem oNotIn : ∃ r, OpR X (compareOp .NotIn) r ∧ BinOk X.K r (alt (gIn true) (gInS true)) := ⟨_, opOr op_notIn_seq op_notin_str, binOr bin_in bin_ninS⟩
/-- a comparison as a value, as a test: o is oLt .. oNotIn -/
theorem pdC {op : CmpOp} {g : D → D → Option Res} (o : ∃ r, OpR X (compareOp op) r ∧ BinOk X.K r g) (hm : behindInMarks op b = false) (ha : PD X a fa) (hb : PD X b fb) : PD X (.Compare a [op] [b] pos) (iBin g fa fb) := let ⟨_, h, h'⟩ := o; pdCmp h h' hm ha hb
theorem tdC {op : CmpOp} {g : D → D → Option Res} (o : ∃ r, OpR X (compareOp op) r ∧ BinOk X.K r g) (hm : behindInMarks op b = false) (ha : PD X a fa) (hb : PD X b fb) : TD X (.Compare a [op] [b] pos) (iTst (iBin g fa fb)) := let ⟨_, h, h'⟩ := o; tdCmp h h' hm ha hb
/-! and, or, not, if -/
theorem pdOne {op : BoolOp} (ha : PD X a fa) : PD X (.BoolOp op [a] pos) fa := let ⟨_, h1, k1⟩ := ha; ⟨_, pe_one h1, k1⟩
theorem pdAnd {c : Expr} {rest : List Expr} (ha : PD X a fa) (hb : PD X (.BoolOp .And (c :: rest) pos) fb) : PD X (.BoolOp .And (a :: c :: rest) pos) (iAnd fa fb) := let ⟨_, h1, k1⟩ := ha; let ⟨_, h2, k2⟩ := hb; ⟨_, pe_and h1 h2, sd_and k1 k2⟩
theorem pdOr {c : Expr} {rest : List Expr} (ha : PD X a fa) (hb : PD X (.BoolOp .Or (c :: rest) pos) fb) : PD X (.BoolOp .Or (a :: c :: rest) pos) (iOr fa fb) := let ⟨_, h1, k1⟩ := ha; let ⟨_, h2, k2⟩ := hb; ⟨_, pe_or h1 h2, sd_or k1 k2⟩
theorem pdNot (ha : PD X a fa) : PD X (.UnaryOp .Not a pos) (iNot fa) := let ⟨_, h1, k1⟩ := ha; ⟨_, pe_not h1, sd_not k1⟩
theorem pdIfE {c : Expr} {fc : EvT} (hc : TD X c fc) (ha : PD X a fa) (hb : PD X b fb) : PD X (.IfExp c a b pos) (iIf fc fa fb) := let ⟨_, h0, k0⟩ := hc; let ⟨_, h1, k1⟩ := ha; let ⟨_, h2, k2⟩ := hb; ⟨_, pe_ifExp h0 h1 h2, sd_if k0 k1 k2⟩
theorem tdTru (ha : PD X a fa) (he : ∀ whole, isTrue a X.env whole = (do let v ← whole; standAt a.pos; holding [v] (truthy v)) := by intro _; rfl) : TD X a (iTru fa) := let ⟨_, h1, k1⟩ := ha; ⟨_, pt_truth h1 he, sdt_tru k1⟩
theorem tdNot {c : Expr} {fc : EvT} (hc : TD X c fc) : TD X (.UnaryOp .Not c pos) (iNotT fc) := let ⟨_, h0, k0⟩ := hc; ⟨_, pt_not h0, sdt_not k0⟩
theorem tdW {c : Expr} {fc : EvT} (hc : WD X c fc) : TD X c fc := let ⟨_, h0, k0⟩ := hc; ⟨_, h0.pt, k0⟩
theorem wdA1 {c : Expr} {fc : EvT} (hc : TD X c fc) : WD X (.BoolOp .And [c] pos) fc := let ⟨_, h0, k0⟩ := hc; ⟨_, pw_and1 h0, k0⟩
theorem wdO1 {c : Expr} {fc : EvT} (hc : TD X c fc) : WD X (.BoolOp .Or [c] pos) fc := let ⟨_, h0, k0⟩ := hc; ⟨_, pw_or1 h0, k0⟩
theorem wdA {c d : Expr} {rest : List Expr} {fc fd : EvT} (hc : TD X c fc) (hd : WD X (.BoolOp .And (d :: rest) pos) fd) : WD X (.BoolOp .And (c :: d :: rest) pos) (iAndT fc fd) := let ⟨_, h0, k0⟩ := hc; let ⟨_, h1, k1⟩ := hd; ⟨_, pw_and h0 h1, sdt_and k0 k1⟩
theorem wdO {c d : Expr} {rest : List Expr} {fc fd : EvT} (hc : TD X c fc) (hd : WD X (.BoolOp .Or (d :: rest) pos) fd) : WD X (.BoolOp .Or (c :: d :: rest) pos) (iOrT fc fd) := let ⟨_, h0, k0⟩ := hc; let ⟨_, h1, k1⟩ := hd; ⟨_, pw_or h0 h1, sdt_or k0 k1⟩
/-! displays, items, slices -/
theorem adNil : AD X [] argN := ⟨_, pa_nil, sda_nil⟩
theorem adCons {fs : EvA} (ha : PD X e f) (hs : AD X es fs) (he : starEach (e :: es) X.env = (false, eval e X.env) :: starEach es X.env := by rfl) : AD X (e :: es) (argC f fs) := let ⟨_, h1, k1⟩ := ha; let ⟨_, h2, k2⟩ := hs; ⟨_, pa_cons h1 h2 he, sda_cons k1 k2⟩
theorem pdTup {c : Nat} (hs : AD X es fs) : PD X (.Tuple es c pos) (iTup fs) := let ⟨_, h1, k1⟩ := hs; ⟨_, pe_tup h1, sd_tup k1⟩
theorem pdLst (hs : AD X es fs) : PD X (.List es pos) (iLst fs) := let ⟨_, h1, k1⟩ := hs; ⟨_, pe_lst h1, sd_lst k1⟩
theorem pdIx (ha : PD X a fa) (hb : PD X b fb) (hs : PlainIx b := by exact fun _ _ => rfl) : PD X (.Subscript a b pos) (iBin gIx fa fb) := let ⟨_, h1, k1⟩ := ha; let ⟨_, h2, k2⟩ := hb; ⟨_, pe_ix ix_seq h1 h2 hs, sd_bin bin_ix k1 k2⟩
def OD (X : Cx) (o : Option Expr) (f : EvO) : Prop := ∃ t, PO X o t ∧ SdO X.K t f
theorem odN : OD X none iNoP := ⟨_, po_none, sdo_none⟩
theorem odS (ha : PD X a fa) : OD X (some a) (iPart fa) := let ⟨_, h1, k1⟩ := ha; ⟨_, po_some h1, sdo_part k1⟩
theorem pdSl {lo hi : Option Expr} {fl fh : EvO} (ha : PD X a fa) (h1 : OD X lo fl) (h2 : OD X hi fh) : PD X (.Subscript a (.Slice lo hi none p2) pos) (iSl fa fl fh) :=
  let ⟨_, g1, k1⟩ := ha; let ⟨_, g2, k2⟩ := h1; let ⟨_, g3, k3⟩ := h2; ⟨_, pe_slice (sl_list.or (sl_tupA.or sl_str)) g1 g2 g3, sd_sl k1 k2 k3⟩
/-! built-ins -/
variable {x : Str}
theorem pdB {id : String} {r : List L2.V → Hp → VK → Prop} {g : List D → Option Res} (hc : CallR X (.builtin id) r) (hB : CallOk X.K r g) (hg : Gl X x) (hm : X.mg x = none) (hv : bootBuiltins x = some (.builtin id)) (ha : AD X (e :: es) fs) (hn : x ≠ "__name__" := by decide) (hdb : (x == ("__debug__" : Str)) = false := by decide)
    (he : starEach (e :: es) X.env = (false, eval e X.env) :: starEach es X.env := by rfl) (hpl : (backTo pos (starEach es X.env)).any (·.1) = false := by rfl) : PD X (.Call (.Name x p) (e :: es) [] pos) (iCB g fs) :=
  let ⟨_, h1, k1⟩ := ha; ⟨_, pe_callB hc hg hm hv h1 hn hdb he hpl, sd_cb hB k1⟩
theorem pdBT {id : String} {r : List L2.V → Hp → VK → Prop} {g : List D → Option Res} (hc : CallR X (.type id) r) (hB : CallOk X.K r g) (hg : Gl X x) (hm : X.mg x = none) (hv : bootBuiltins x = some (.type id)) (ha : AD X (e :: es) fs) (hn : x ≠ "__name__" := by decide) (hdb : (x == ("__debug__" : Str)) = false := by decide)
    (he : starEach (e :: es) X.env = (false, eval e X.env) :: starEach es X.env := by rfl) (hpl : (backTo pos (starEach es X.env)).any (·.1) = false := by rfl) : PD X (.Call (.Name x p) (e :: es) [] pos) (iCB g fs) :=
  let ⟨_, h1, k1⟩ := ha; ⟨_, pe_callTy hc hg hm hv h1 hn hdb he hpl, sd_cb hB k1⟩
end
end DL

namespace DL
open PySem PySem.Spec PyProof.Rows L2
open Evl (Ex)
section
variable {X : Cx} {k : Nat} {a b e l tg : Expr} {es : List Expr} {pos p p2 : Pos} {fa fb f : EvF} {fs : EvA} {x : Str} {st : Stmt} {rest body orelse : List Stmt} {g h : StF}
/-! ### the built-ins by name -/
theorem bLen (m : X.mg "len" = none) (hg : Gl X "len") (ha : AD X [e] fs) (he : starEach [e] X.env = (false, eval e X.env) :: starEach [] X.env := by rfl) : PD X (.Call (.Name "len" p) [e] [] pos) (iCB (c1 gLen) fs) :=
  pdB call_len call_len_ok hg m boot_len ha (by decide) (by decide) he
theorem bInt (m : X.mg "int" = none) (hg : Gl X "int") (ha : AD X [e] fs) (he : starEach [e] X.env = (false, eval e X.env) :: starEach [] X.env := by rfl) : PD X (.Call (.Name "int" p) [e] [] pos) (iCB (c1 gInt) fs) :=
  pdBT call_int1 call_int_ok hg m boot_int ha (by decide) (by decide) he
theorem bList (m : X.mg "list" = none) (hg : Gl X "list") (ha : AD X [e] fs) (he : starEach [e] X.env = (false, eval e X.env) :: starEach [] X.env := by rfl) : PD X (.Call (.Name "list" p) [e] [] pos) (iCB (c1 gList) fs) :=
  pdBT call_list_of call_list_ok hg m boot_list ha (by decide) (by decide) he
theorem bTuple (m : X.mg "tuple" = none) (hg : Gl X "tuple") (ha : AD X [e] fs) (he : starEach [e] X.env = (false, eval e X.env) :: starEach [] X.env := by rfl) : PD X (.Call (.Name "tuple" p) [e] [] pos) (iCB (c1 gTuple) fs) :=
  pdBT call_tuple_of call_tuple_ok hg m boot_tuple ha (by decide) (by decide) he
theorem bAll (hc : X.calm = true) (m : X.mg "all" = none) (hg : Gl X "all") (ha : AD X [e] fs) (he : starEach [e] X.env = (false, eval e X.env) :: starEach [] X.env := by rfl) : PD X (.Call (.Name "all" p) [e] [] pos) (iCB (c1 (gAll true)) fs) :=
  pdB (cr_all hc) call_all_ok hg m (by decide +kernel) ha (by decide) (by decide) he
theorem bAny (hc : X.calm = true) (m : X.mg "any" = none) (hg : Gl X "any") (ha : AD X [e] fs) (he : starEach [e] X.env = (false, eval e X.env) :: starEach [] X.env := by rfl) : PD X (.Call (.Name "any" p) [e] [] pos) (iCB (c1 (gAll false)) fs) :=
  pdB (cr_any hc) call_any_ok hg m (by decide +kernel) ha (by decide) (by decide) he
theorem bSum (hc : X.calm = true) (m : X.mg "sum" = none) (hg : Gl X "sum") (ha : AD X [e] fs) (he : starEach [e] X.env = (false, eval e X.env) :: starEach [] X.env := by rfl) : PD X (.Call (.Name "sum" p) [e] [] pos) (iCB (c1 gSum) fs) :=
  pdB (cr_sum hc) call_sum_ok hg m (by decide +kernel) ha (by decide) (by decide) he
/-- isinstance(e, T), T a built-in class by its name -/
theorem bIsi {T : Str} {n : String} (m : X.mg "isinstance" = none) (hg : Gl X "isinstance") (hT : Gl X T) (mT : X.mg T = none) (bT : bootBuiltins T = some (.type n)) (ha : PD X e f) (hn : T ≠ "__name__" := by decide) (hd : (T == ("__debug__" : Str)) = false := by decide)
    (he : starEach [e, .Name T p2] X.env = (false, eval e X.env) :: starEach [.Name T p2] X.env := by rfl) (he2 : starEach [.Name T p2] X.env = (false, eval (.Name T p2) X.env) :: starEach [] X.env := by rfl) (hpl : (backTo pos (starEach [.Name T p2] X.env)).any (·.1) = false := by rfl) :
    PD X (.Call (.Name "isinstance" p) [e, .Name T p2] [] pos) (iIsi n f) :=
  let ⟨_, h1, k1⟩ := ha
  ⟨_, pe_callB call_isi hg m boot_isinstance (pa_cons h1 (pa_cons (pe_bltn hT mT bT (show RelV (.ty n) (.type n) from rfl) hn hd) pa_nil he2) he) (by decide) (by decide) he hpl, sd_isi k1⟩
/-! ### calls of defs -/
def argLen : EvA → Nat → Prop := fun fs n => ∀ env rs env', fs env = some (rs, env') → rs.length = n
theorem argLen0 : argLen argN 0 := fun env rs env' h => by cases h; rfl
theorem argLenS {fs : EvA} {n : Nat} (h : argLen fs n) : argLen (argC f fs) (n + 1) := fun env rs env' q => by
  simp only [argC, Option.bind_eq_some_iff] at q
  obtain ⟨⟨r, e1⟩, h1, ⟨rs', e2⟩, h2, h3⟩ := q
  cases h3
  rw [List.length_cons, h _ _ _ h2]
theorem pdCall {F : Addr} {fd : FuncData} {ps : List Str} {n : Nat} {m : Fn} (G : FnOk X.prog X.w X.K X.mg X.base CX0 k F fd ps (spF X.K n m)) (hr : Room k X.A) (hg : Gl X x) (hm : X.mg x = some (.ref F)) (hk : PySem.W.keepIn X.K (.ref F) = true) (hb : Binds X.K fd ps [])
    (ha : AD X (e :: es) fs) (hl : argLen fs n) (hdb : (x == ("__debug__" : Str)) = false := by decide) (he : starEach (e :: es) X.env = (false, eval e X.env) :: starEach es X.env := by rfl) (hpl : (backTo pos (starEach es X.env)).any (·.1) = false := by rfl) :
    PD X (.Call (.Name x p) (e :: es) [] pos) (iCall m fs) :=
  let ⟨_, h1, k1⟩ := ha; ⟨_, pe_call G hr hg hm hk hb .nil pass0 h1 hdb he hpl, sd_call k1 hl⟩
/-! ### statements -/
theorem bdNil : BD X [] iNext := ⟨_, pss_nil, sds_next⟩
theorem bdCons (hs : StD X st g) (hr : BD X rest h) : BD X (st :: rest) (iSeq g h) := let ⟨_, h1, k1⟩ := hs; let ⟨_, h2, k2⟩ := hr; ⟨_, pss_cons h1 h2, sds_seq k1 k2⟩
theorem bdOne (hs : StD X st g) : BD X [st] g := let ⟨_, h1, k1⟩ := hs; ⟨_, pss_one h1, k1⟩
theorem bdFrz (i : Nat) (h : BD X rest g) : BD X rest (iSeq (iFrz i) g) := let ⟨_, h1, k1⟩ := h; ⟨_, h1, sds_frz k1⟩
theorem stAsg (ow : Bool) (i : Nat) (nd : X.N.Nodup) (he : PD X e f) (hi : X.N[i]? = some x := by rfl) (hx : Loc X.env.scope x := by first | exact Or.inl rfl | exact Or.inr rfl) (hf : X.fn x = true ∨ X.env.scope.names.lookup x = some .local := by first | exact .inl rfl | exact .inr rfl)
    (hs : swapsWithSole [.Name x p] e pos.line X.env = pure false := by rfl) (hw : swappedStores [.Name x p] e X.env = pure none := by rfl) (h1 : (assignEach [.Name x p] X.env).map (·.2) = [assign (.Name x p) X.env] := by rfl) : StD X (.Assign [.Name x p] e pos) (iAsg ow i f) :=
  let ⟨_, g1, k1⟩ := he; ⟨_, ps_asg g1 (pg_name nd hi hx hf) hs hw h1, sds_asg k1⟩
theorem gdName (i : Nat) (nd : X.N.Nodup) (hi : X.N[i]? = some x := by rfl) (hx : Loc X.env.scope x := by first | exact Or.inl rfl | exact Or.inr rfl) (hf : X.fn x = true ∨ X.env.scope.names.lookup x = some .local := by first | exact .inl rfl | exact .inr rfl) : GD X (.Name x p) (iNm i) := ⟨_, pg_name nd hi hx hf, sdg_name i⟩
theorem gsNil : GsD X [] iGN := ⟨_, pgs_nil, sdgs_nil⟩
theorem gsCons {g : TgF} {gs : TgsF} (h1 : GD X e g) (h2 : GsD X es gs) (hs : (assignEach (e :: es) X.env).map (·.2) = assign e X.env :: (assignEach es X.env).map (·.2) := by rfl) : GsD X (e :: es) (iGC g gs) := let ⟨_, g1, k1⟩ := h1; let ⟨_, g2, k2⟩ := h2; ⟨_, pgs_cons g1 g2 hs, sdgs_cons k1 k2⟩
theorem gdTup {c n : Nat} {gs : TgsF} (hc : X.calm = true) (h : GsD X es gs) (hn : (assignEach es X.env).length = n := by rfl) (hst : (assignEach es X.env).findIdx? (·.1) = none := by rfl) : GD X (.Tuple es c pos) (iGT gs n) := let ⟨_, g1, k1⟩ := h; ⟨_, pg_both hc g1 hn hst, sdg_tup k1⟩
theorem stAsgT {g : TgF} (hg : GD X tg g) (he : PD X e f) (hs : swapsWithSole [tg] e pos.line X.env = pure false := by rfl) (hw : swappedStores [tg] e X.env = pure none := by rfl) (h1 : (assignEach [tg] X.env).map (·.2) = [assign tg X.env] := by rfl) : StD X (.Assign [tg] e pos) (iAsgT g f) :=
  let ⟨_, g1, k1⟩ := he; let ⟨_, g2, k2⟩ := hg; ⟨_, ps_asg g1 g2 hs hw h1, sds_asgT k2 k1⟩
theorem stAdd (i : Nat) (nd : X.N.Nodup) (he : PD X e f) (hi : X.N[i]? = some x := by rfl) (hx : Loc X.env.scope x := by first | exact Or.inl rfl | exact Or.inr rfl) (hf : X.fn x = true ∨ X.env.scope.names.lookup x = some .local := by first | exact .inl rfl | exact .inr rfl) : StD X (.AugAssign (.Name x p) .Add e pos) (iAug i (fun i j => i + j) f) :=
  let ⟨_, g1, k1⟩ := he; ⟨_, ps_aug nd hi hx g1 ip_add hf, sds_aug k1⟩
theorem stIf {c : Expr} {fc : EvT} (hc : TD X c fc) (ha : BD X body g) (hb : BD X orelse h) : StD X (.If c body orelse pos) (iIfS fc g h) := let ⟨_, h0, k0⟩ := hc; let ⟨_, h1, k1⟩ := ha; let ⟨_, h2, k2⟩ := hb; ⟨_, ps_if h0 h1 h2, sds_if k0 k1 k2⟩
theorem stRet (he : PD X e f) : StD X (.Return (some e) pos) (iRet f) := let ⟨_, h1, k1⟩ := he; ⟨_, ps_ret h1, sds_ret k1⟩
theorem stRetN : StD X (.Return none pos) iRetN := ⟨_, ps_retN, sds_retN⟩
theorem stExpr (he : PD X e f) (hs : swapsWith e none pos.line X.env = pure false := by rfl) : StD X (.Expr e pos) (iDrop f) := let ⟨_, h1, k1⟩ := he; ⟨_, ps_expr h1 hs, sds_drop k1⟩
theorem stBrk : StD X (.Break pos) iBrk := ⟨_, ps_break, sds_brk⟩
theorem stCont : StD X (.Continue pos) iCont := ⟨_, ps_continue, sds_cont⟩
theorem stFor {it : ItF} {gt : TgF} (hc : X.calm = true) (hi : ID X tg e it) (hg : GD X tg gt) (hb : BD X body g) (hp : PassesOwn (model X.prog X.w) X.A X.env X.xe) (hs : ∀ x, foldedSetIterable e X.env x = pure x := by intro _; rfl) : StD X (.For tg e body [] pos) (iFor it gt g) :=
  let ⟨_, h0, k0⟩ := hi; let ⟨_, h1, k1⟩ := hg; let ⟨_, h2, k2⟩ := hb; ⟨_, ps_for hp hc h0 h1 h2 hs, sds_for k0 k1 k2⟩
theorem idSeq (he : PD X e f) : ID X tg e (iSeqI f) := let ⟨_, h1, k1⟩ := he; ⟨_, pi_sq h1, sdi_seq k1⟩
theorem idR1 (hg : Gl X "range") (hm : X.mg "range" = none) (ha : AD X [a] fs) (hs : starEach [a] X.env = [(false, eval a X.env)] := by rfl) : ID X tg (.Call (.Name "range" p) [a] [] pos) (iR1 fs) := let ⟨_, h1, k1⟩ := ha; ⟨_, pi_range1 hg hm h1 hs, sdi_r1 k1⟩
theorem idR2 (hg : Gl X "range") (hm : X.mg "range" = none) (ha : AD X [a, b] fs) (hs : starEach [a, b] X.env = [(false, eval a X.env), (false, eval b X.env)] := by rfl) (hs2 : starEach [b] X.env = [(false, eval b X.env)] := by rfl) : ID X tg (.Call (.Name "range" p) [a, b] [] pos) (iR2 fs) :=
  let ⟨_, h1, k1⟩ := ha; ⟨_, pi_range2 hg hm h1 hs hs2, sdi_r2 k1⟩
theorem stWhile {c : Expr} {fc : EvT} (n : Nat) (hc : TD X c fc) (hb : BD X body g) (hp : PassesOwn (model X.prog X.w) X.A X.env X.xe) : StD X (.While c body [] pos) (wloop fc g n) := let ⟨_, h0, k0⟩ := hc; let ⟨_, h1, k1⟩ := hb; ⟨_, ps_while hp h0 h1, sds_while n k0 k1⟩
theorem stApp (i : Nat) (he : PD X e f) {apos p : Pos} (hN : X.N[i]? = some x := by rfl) (hv : Vis X.env.scope x := by first | exact Or.inl rfl | exact Or.inr (Or.inl rfl) | exact Or.inr (Or.inr rfl)) (hd : (x == ("__debug__" : Str)) = false := by decide) (hcd : (x == ("__classdict__" : Str)) = false := by decide)
    (h1 : attributeBase (.Name x p) "append" X.env (eval (.Name x p) X.env) = eval (.Name x p) X.env := by rfl) (h2 : (apos.endLine == pos.line) = true := by rfl) (h3 : starEach [e] X.env = (false, eval e X.env) :: starEach [] X.env := by rfl) (h4 : (backTo pos (starEach [] X.env)).any (·.1) = false := by rfl)
    (h5 : ((backTo pos (starEach [e] X.env)).all (fun x => !x.1) && (backToKw pos (keywordEach [] X.env)).all (fun x => x.1.isSome) && decide ([e].length + ([] : List Keyword).length + (if ([] : List Keyword).isEmpty then 0 else 1) < 30)) = true := by rfl) (hs : swapsWith (.Call (.Attribute (.Name x p) "append" apos) [e] [] pos) none p2.line X.env = pure false := by rfl) : StD X (.Expr (.Call (.Attribute (.Name x p) "append" apos) [e] [] pos) p2) (iApp i f) :=
  let ⟨_, g1, k1⟩ := he
  ⟨_, ps_expr (pe_bm PySem.F.plainAttrs_list PySem.F.slot_list_append PySem.F.type_list_append mt_append (pe_var hN hv hd hcd) (pa_cons g1 pa_nil h3) h1 h5 h2 h3 h4) hs, sds_app k1⟩
theorem stExt (i : Nat) (he : PD X e f) {apos p : Pos} (hN : X.N[i]? = some x := by rfl) (hv : Vis X.env.scope x := by first | exact Or.inl rfl | exact Or.inr (Or.inl rfl) | exact Or.inr (Or.inr rfl)) (hd : (x == ("__debug__" : Str)) = false := by decide) (hcd : (x == ("__classdict__" : Str)) = false := by decide)
    (h1 : attributeBase (.Name x p) "extend" X.env (eval (.Name x p) X.env) = eval (.Name x p) X.env := by rfl) (h2 : (apos.endLine == pos.line) = true := by rfl) (h3 : starEach [e] X.env = (false, eval e X.env) :: starEach [] X.env := by rfl) (h4 : (backTo pos (starEach [] X.env)).any (·.1) = false := by rfl)
    (h5 : ((backTo pos (starEach [e] X.env)).all (fun x => !x.1) && (backToKw pos (keywordEach [] X.env)).all (fun x => x.1.isSome) && decide ([e].length + ([] : List Keyword).length + (if ([] : List Keyword).isEmpty then 0 else 1) < 30)) = true := by rfl) (hs : swapsWith (.Call (.Attribute (.Name x p) "extend" apos) [e] [] pos) none p2.line X.env = pure false := by rfl) : StD X (.Expr (.Call (.Attribute (.Name x p) "extend" apos) [e] [] pos) p2) (iExt i f) :=
  let ⟨_, g1, k1⟩ := he
  ⟨_, ps_expr (pe_bm PySem.F.plainAttrs_list PySem.F.slot_list_extend PySem.F.type_list_extend mt_extend (pe_var hN hv hd hcd) (pa_cons g1 pa_nil h3) h1 h5 h2 h3 h4) hs, sds_ext k1⟩
theorem pdPop (i : Nat) {apos p : Pos} (hN : X.N[i]? = some x := by rfl) (hv : Vis X.env.scope x := by first | exact Or.inl rfl | exact Or.inr (Or.inl rfl) | exact Or.inr (Or.inr rfl)) (hd : (x == ("__debug__" : Str)) = false := by decide) (hcd : (x == ("__classdict__" : Str)) = false := by decide)
    (h1 : attributeBase (.Name x p) "pop" X.env (eval (.Name x p) X.env) = eval (.Name x p) X.env := by rfl) (h2 : (apos.endLine == pos.line) = true := by rfl) : PD X (.Call (.Attribute (.Name x p) "pop" apos) [] [] pos) (iPop i) :=
  ⟨_, pe_bm0 PySem.F.plainAttrs_list PySem.F.slot_list_pop PySem.F.type_list_pop mt_pop (pe_var hN hv hd hcd) h1 h2, sd_pop⟩
end
end DL

namespace DL
open PySem PySem.Spec PyProof.Rows L2
open Evl (Ex)
theorem relI {i : Int} {t : Tok} : RelV (.int i) (.int i t) := ⟨t, rfl⟩
theorem relS {i : Str} {t : Tok} : RelV (.str i) (.str i t) := ⟨t, rfl⟩
theorem relR {a : Addr} : RelV (.ref a) (.ref a) := rfl
/-! ### one reading for a meaning -/
def cE (K : PySem.W.Frag) (f : EvF) : TE := fun σ H Q => ∀ t, Sd K t f → t σ H Q
theorem cE_sd {K : PySem.W.Frag} {f : EvF} : Sd K (cE K f) f := fun env r env' e σ V H ok Q q t ht => ht env r env' e σ V H ok Q q
theorem PD.canon {X : Cx} {e : Expr} {f : EvF} (h : PD X e f) : PE X e (cE X.K f) :=
  let ⟨t, h1, h2⟩ := h; ⟨fun pins s σ H Q I q => h1.run pins s σ H Q I (q t h2)⟩
def cT (K : PySem.W.Frag) (f : EvT) : TT := fun σ H Q => ∀ t, SdT K t f → t σ H Q
theorem cT_sd {K : PySem.W.Frag} {f : EvT} : SdT K (cT K f) f := fun env r env' e σ V H ok Q q t ht => ht env r env' e σ V H ok Q q
def TsD (X : Cx) (cs : List Expr) (f : EvT) : Prop := ∃ t, PTs X cs t ∧ SdT X.K t f
theorem TsD.canon {X : Cx} {cs : List Expr} {f : EvT} (h : TsD X cs f) : PTs X cs (cT X.K f) :=
  let ⟨t, h1, h2⟩ := h; ⟨fun pins s σ H Q I q => h1.run pins s σ H Q I (q t h2)⟩
def GDv (X : Cx) (e : Expr) (g : TgF) (vs : List Nat) : Prop := ∃ t, PG X e t ∧ SdGv X.K t g vs
def GsDv (X : Cx) (es : List Expr) (g : TgsF) (vs : List Nat) : Prop := ∃ t, PGs X es t ∧ SdGsv X.K t g vs
def cG (K : PySem.W.Frag) (g : TgF) (vs : List Nat) : TG := fun v σ H Q => ∀ t, SdGv K t g vs → t v σ H Q
theorem cG_sd {K : PySem.W.Frag} {g : TgF} {vs : List Nat} : SdGv K (cG K g vs) g vs := fun env d env' e σ V H v ok r Q q t ht => ht env d env' e σ V H v ok r Q q
theorem GDv.canon {X : Cx} {e : Expr} {g : TgF} {vs : List Nat} (h : GDv X e g vs) : PG X e (cG X.K g vs) :=
  let ⟨t, h1, h2⟩ := h; ⟨fun pins s σ H v u Q I r q => h1.run pins s σ H v u Q I r (q t h2)⟩
section
variable {X : Cx} {k : Nat} {a b c e l tg elt iter : Expr} {es ifs : List Expr} {pos p p2 : Pos} {fa fb f : EvF} {fs : EvA} {x : Str} {vs : List Nat}
theorem gvName {i : Nat} (nd : X.N.Nodup) (hm : i ∈ vs) (hi : X.N[i]? = some x := by rfl) (hx : Loc X.env.scope x := by first | exact Or.inl rfl | exact Or.inr rfl) (hf : X.fn x = true ∨ X.env.scope.names.lookup x = some .local := by first | exact .inl rfl | exact .inr rfl) : GDv X (.Name x p) (iNm i) vs := ⟨_, pg_name nd hi hx hf, sdgv_name hm⟩
theorem gvNil : GsDv X [] iGN vs := ⟨_, pgs_nil, sdgsv_nil⟩
theorem gvCons {g : TgF} {gs : TgsF} (h1 : GDv X e g vs) (h2 : GsDv X es gs vs) (hs : (assignEach (e :: es) X.env).map (·.2) = assign e X.env :: (assignEach es X.env).map (·.2) := by rfl) : GsDv X (e :: es) (iGC g gs) vs := let ⟨_, g1, k1⟩ := h1; let ⟨_, g2, k2⟩ := h2; ⟨_, pgs_cons g1 g2 hs, sdgsv_cons k1 k2⟩
theorem gvTup {c n : Nat} {gs : TgsF} (hc : X.calm = true) (h : GsDv X es gs vs) (hn : (assignEach es X.env).length = n := by rfl) (hst : (assignEach es X.env).findIdx? (·.1) = none := by rfl) : GDv X (.Tuple es c pos) (iGT gs n) vs := let ⟨_, g1, k1⟩ := h; ⟨_, pg_both hc g1 hn hst, sdgv_tup k1⟩
def iYes : EvT := fun env => some (true, env)
theorem tsNil : TsD X [] iYes := ⟨_, pts_nil, fun env b env' e σ V H ok Q q => by cases e; exact q V H (Adv.refl ok)⟩
theorem tsOne {fc : EvT} (h : TD X c fc) : TsD X [c] fc := let ⟨_, h1, k1⟩ := h; ⟨_, pts_one h1, k1⟩
theorem pdLc {scope : Scope} {own : List (Str × Nat)} {it : ItF} {g : TgF} {fc : EvT} (hc : X.calm = true) (nd : X.N.Nodup) (hi : ID X tg iter it) (ok : BlkOk X.N X.env.scope scope own)
    (hg : ∀ (s : Shared) (H : Hp) (C : Addr) (cl : List (Str × Addr)) (fp : List Addr), GDv (X.blk s H scope (compEnvC scope cl C X.env) fp) tg g (own.map (·.2)))
    (ht : ∀ (s : Shared) (H : Hp) (C : Addr) (cl : List (Str × Addr)) (fp : List Addr), TsD (X.blk s H scope (compEnvC scope cl C X.env) fp) ifs fc)
    (he : ∀ (s : Shared) (H : Hp) (C : Addr) (cl : List (Str × Addr)) (fp : List Addr), PD (X.blk s H scope (compEnvC scope cl C X.env) fp) elt f) (hs : ∀ x, foldedSetIterable iter X.env x = pure x := by intro _; rfl) :
    PD X (.ListComp elt [⟨tg, iter, ifs, 0⟩] scope pos) (iLc it g fc f (own.map (·.2))) :=
  let ⟨_, h0, k0⟩ := hi
  ⟨_, pe_lc (te := cE X.K f) (tt := cT X.K fc) (g := cG X.K g (own.map (·.2))) hc nd h0 ok (fun s H C cl fp => (hg s H C cl fp).canon) (fun s H C cl fp => (ht s H C cl fp).canon) (fun s H C cl fp => (he s H C cl fp).canon) hs, sd_lc k0 cG_sd cT_sd cE_sd⟩
theorem stAsgLc {scope : Scope} {own : List (Str × Nat)} {it : ItF} {g : TgF} {fc : EvT} {py spos : Pos} (ow : Bool) (i : Nat) (hc : X.calm = true) (nd : X.N.Nodup) (hy : X.N[i]? = some x) (hyl : X.env.scope.names.lookup x = some .local)
    (hsw : swapsWith (.ListComp elt [⟨tg, iter, ifs, 0⟩] scope pos) (some (.Name x py)) spos.line X.env = pure true) (hi : ID X tg iter it) (ok : BlkOk X.N X.env.scope scope own)
    (hg : ∀ (s : Shared) (H : Hp) (C : Addr) (cl : List (Str × Addr)) (fp : List Addr), GDv (X.blk s H scope (compEnvC scope cl C X.env) fp) tg g (own.map (·.2)))
    (ht : ∀ (s : Shared) (H : Hp) (C : Addr) (cl : List (Str × Addr)) (fp : List Addr), TsD (X.blk s H scope (compEnvC scope cl C X.env) fp) ifs fc)
    (he : ∀ (s : Shared) (H : Hp) (C : Addr) (cl : List (Str × Addr)) (fp : List Addr), PD (X.blk s H scope (compEnvC scope cl C X.env) fp) elt f) (hs : ∀ x, foldedSetIterable iter X.env x = pure x := by intro _; rfl) :
    StD X (.Assign [.Name x py] (.ListComp elt [⟨tg, iter, ifs, 0⟩] scope pos) spos) (iAsg ow i (iLc it g fc f (own.map (·.2)))) :=
  let ⟨_, h0, k0⟩ := hi
  ⟨_, ps_setLc (te := cE X.K f) (tt := cT X.K fc) (g := cG X.K g (own.map (·.2))) hc nd hy hyl hsw h0 ok (fun s H C cl fp => (hg s H C cl fp).canon) (fun s H C cl fp => (ht s H C cl fp).canon) (fun s H C cl fp => (he s H C cl fp).canon) hs, sds_asg (sd_lc k0 cG_sd cT_sd cE_sd)⟩
/-! ### a < b < c -/
def iChn (g g' : D → D → Option Res) (fa fb fc : EvF) : EvF := fun env => (opd fa env).bind fun p => (opd fb p.2).bind fun q => (look q.2 p.1).bind fun d => (look q.2 q.1).bind fun e => (g d e).bind fun r => (isB r).bind fun b =>
  if b = true then (opd fc q.2).bind fun s => (look s.2 q.1).bind fun e' => (look s.2 s.1).bind fun f => (g' e' f).bind fun r' => some (r', s.2) else some (.val (.bool false), q.2)
theorem sd_chn {K : PySem.W.Frag} {r r' : R2} {g g' : D → D → Option Res} {ta tb tc : TE} {fa fb fc : EvF} (h1 : BinOk K r g) (h2 : BinOk K r' g') (ha : Sd K ta fa) (hb : Sd K tb fb) (hc : Sd K tc fc) : Sd K (tChain r r' ta tb tc) (iChn g g' fa fb fc) := by
  intro env res env' e σ V H ok Q q
  simp only [iChn, Option.bind_eq_some_iff] at e
  obtain ⟨⟨ra, e1⟩, k1, ⟨rb, e2⟩, k2, d, k3, d', k4, rr, k5, b, k6, k7⟩ := e
  refine opd_snd ha k1 ok fun x V1 H1 a1 c1 => ?_
  refine opd_snd hb k2 a1.ok fun y V2 H2 a2 c2 => ?_
  have a := a1.trans a2
  have hr : rr = _ := isB_val k6
  subst hr
  refine h1 V2 H2 x y d d' _ a.ok.sub ((c1.mono a2.ex).look a.ok k3) (c2.look a.ok k4) k5 _ fun v V' H' al rv => ⟨b, R.isBool rv, ?_⟩
  have a3 := a.trans (al.adv a.ok)
  cases b with
  | false =>
    rw [if_neg Bool.false_ne_true]
    rw [if_neg Bool.false_ne_true] at k7
    cases k7
    exact q _ V' H' a3 (R.bool false)
  | true =>
    rw [if_pos rfl]
    rw [if_pos rfl] at k7
    simp only [Option.bind_eq_some_iff] at k7
    obtain ⟨⟨rc, e3⟩, m1, f', m2, f2, m3, r2, m4, m5⟩ := k7
    cases m5
    refine opd_snd hc m1 a3.ok fun z V3 H3 a4 c3 => ?_
    have a5 := a3.trans a4
    exact h2 V3 H3 y z f' f2 res a5.ok.sub ((((c2.mono al.ex)).mono a4.ex).look a5.ok m2) (c3.look a5.ok m3) m4 Q fun v V4 H4 b2 hr2 => q v V4 H4 (a5.trans (b2.adv a5.ok)) (hr2.rok a5 b2)
theorem pdChn {op op' : CmpOp} {g g' : D → D → Option Res} {fc : EvF} (o : ∃ r, OpR X (compareOp op) r ∧ BinOk X.K r g) (o' : ∃ r, OpR X (compareOp op') r ∧ BinOk X.K r g') (ha : PD X a fa) (hb : PD X b fb) (hc : PD X c fc) (hm : lastMarks [op, op'] [b, c] = false := by with_unfolding_all rfl) : PD X (.Compare a [op, op'] [b, c] pos) (iChn g g' fa fb fc) :=
  let ⟨_, h1, k1⟩ := o; let ⟨_, h2, k2⟩ := o'; let ⟨_, h3, k3⟩ := ha; let ⟨_, h4, k4⟩ := hb; let ⟨_, h5, k5⟩ := hc; ⟨_, pe_chain h1 h2 h3 h4 h5 hm, sd_chn k1 k2 k3 k4 k5⟩
theorem tdChn {op op' : CmpOp} {g g' : D → D → Option Res} {fc : EvF} (o : ∃ r, OpR X (compareOp op) r ∧ BinOk X.K r g) (o' : ∃ r, OpR X (compareOp op') r ∧ BinOk X.K r g') (ha : PD X a fa) (hb : PD X b fb) (hc : PD X c fc) (hm : lastMarks [op, op'] [b, c] = false := by with_unfolding_all rfl) : TD X (.Compare a [op, op'] [b, c] pos) (iTst (iChn g g' fa fb fc)) :=
  let ⟨_, h1, k1⟩ := o; let ⟨_, h2, k2⟩ := o'; let ⟨_, h3, k3⟩ := ha; let ⟨_, h4, k4⟩ := hb; let ⟨_, h5, k5⟩ := hc; ⟨_, pt_chain h1 h2 h3 h4 h5 hm, sdt_test (sd_chn k1 k2 k3 k4 k5)⟩
end
end DL

/-! The meanings, applied: what simp computes with. -/
namespace DL
open PySem L2
section
variable {env e : Nv} {f g fa fb fc : EvF} {fs : EvA} {c t : EvT} {s u : StF} {d d' : D} {r : Res} {i j : Int} {n : Nat}
@[simp] theorem iVar_ap : iVar n env = match env[n]? with
  | some (.val d) => some (.val d, env)
  | some (.own _ _) => some (.own n, env)
  | _ => none := rfl
@[simp] theorem iCon_ap : iCon d env = some (.val d, env) := rfl
@[simp] theorem pub_val : pub (.val d) = .val d := rfl
@[simp] theorem pub_new : pub (.new d) = .val d := rfl
@[simp] theorem pub_own : pub (.own n) = .own n := rfl
@[simp] theorem opd_ap : opd f env = (f env).bind fun p => some (pub p.1, p.2) := rfl
@[simp] theorem look_val : look env (.val d) = some d := rfl
@[simp] theorem look_new : look env (.new d) = some d := rfl
@[simp] theorem look_own' : look env (.own n) = match env[n]? with
  | some (.own _ d) => some d
  | _ => none := rfl
@[simp] theorem vis_val : vis (.val d) = some d := rfl
@[simp] theorem vis_new : vis (.new d) = some d := rfl
@[simp] theorem iBin_ap {o : D → D → Option Res} : iBin o fa fb env = (opd fa env).bind fun p => (opd fb p.2).bind fun q => (look q.2 p.1).bind fun d => (look q.2 q.1).bind fun e => (o d e).bind fun r => some (r, q.2) := rfl
@[simp] theorem iUn_ap {o : D → Option Res} : iUn o fa env = (opd fa env).bind fun p => (look p.2 p.1).bind fun d => (o d).bind fun r => some (r, p.2) := rfl
@[simp] theorem argN_ap : argN env = some ([], env) := rfl
@[simp] theorem argC_ap : argC f fs env = (opd f env).bind fun p => (fs p.2).bind fun q => some (p.1 :: q.1, q.2) := rfl
@[simp] theorem looks_nil : looks env [] = some [] := rfl
@[simp] theorem looks_cons {rs : List Res} : looks env (r :: rs) = (look env r).bind fun d => (looks env rs).bind fun ds => some (d :: ds) := rfl
@[simp] theorem viss_nil : viss [] = some [] := rfl
@[simp] theorem viss_cons {rs : List Res} : viss (r :: rs) = (vis r).bind fun d => (viss rs).bind fun ds => some (d :: ds) := rfl
@[simp] theorem iCB_ap {o : List D → Option Res} : iCB o fs env = (fs env).bind fun p => (looks p.2 p.1).bind fun ds => (o ds).bind fun r => some (r, p.2) := rfl
@[simp] theorem iTup_ap : iTup fs env = (fs env).bind fun p => (viss p.1).bind fun ds => if ds.length ≤ 1000 then some (.val (.tuple ds), p.2) else none := rfl
@[simp] theorem iLst_ap : iLst fs env = (fs env).bind fun p => (viss p.1).bind fun ds => if ds.length ≤ 1000 then some (.new (.list ds), p.2) else none := rfl
@[simp] theorem isB_ap {b : Bool} : isB (.val (.bool b)) = some b := rfl
@[simp] theorem isI_ap : isI (.val (.int i)) = some i := rfl
@[simp] theorem iTst_ap : iTst f env = (f env).bind fun p => (isB p.1).bind fun b => some (b, p.2) := rfl
@[simp] theorem iTru_ap : iTru f env = (opd f env).bind fun p => (look p.2 p.1).bind fun d => (truD d).bind fun b => some (b, p.2) := rfl
@[simp] theorem iNotT_ap : iNotT c env = (c env).bind fun p => some (!p.1, p.2) := rfl
@[simp] theorem iAndT_ap : iAndT c t env = (c env).bind fun p => if p.1 = true then t p.2 else some (false, p.2) := rfl
@[simp] theorem iOrT_ap : iOrT c t env = (c env).bind fun p => if p.1 = true then some (true, p.2) else t p.2 := rfl
@[simp] theorem iAnd_ap : iAnd fa fb env = (fa env).bind fun p => (isB p.1).bind fun b => if b = true then fb p.2 else some (.val (.bool false), p.2) := rfl
@[simp] theorem iOr_ap : iOr fa fb env = (fa env).bind fun p => (isB p.1).bind fun b => if b = true then some (.val (.bool true), p.2) else fb p.2 := rfl
@[simp] theorem iNot_ap : iNot fa env = (fa env).bind fun p => (isB p.1).bind fun b => some (.val (.bool (!b)), p.2) := rfl
@[simp] theorem iIf_ap : iIf c fa fb env = (c env).bind fun p => if p.1 = true then fa p.2 else fb p.2 := rfl
@[simp] theorem iSl_ap {lo hi : EvO} : iSl f lo hi env = (opd f env).bind fun p => (lo p.2).bind fun q => (hi q.2).bind fun r => (look r.2 p.1).bind fun d => (gSl d q.1 r.1).bind fun z => some (z, r.2) := rfl
@[simp] theorem iNoP_ap : iNoP env = some (none, env) := rfl
@[simp] theorem iPart_ap : iPart f env = (f env).bind fun p => (isI p.1).bind fun i => some (some i, p.2) := rfl
@[simp] theorem iIsi_ap {T : String} : iIsi T f env = (opd f env).bind fun p => (look p.2 p.1).bind fun d => (isiD T d).bind fun b => some (.val (.bool b), p.2) := rfl
@[simp] theorem iChn_ap {o o' : D → D → Option Res} : iChn o o' fa fb fc env = (opd fa env).bind fun p => (opd fb p.2).bind fun q => (look q.2 p.1).bind fun d => (look q.2 q.1).bind fun e => (o d e).bind fun r => (isB r).bind fun b =>
  if b = true then (opd fc q.2).bind fun s => (look s.2 q.1).bind fun e' => (look s.2 s.1).bind fun f => (o' e' f).bind fun r' => some (r', s.2) else some (.val (.bool false), q.2) := rfl
/-! operations -/
@[simp] theorem gAdd_int : gAdd (.int i) (.int j) = some (.val (.int (i + j))) := rfl
@[simp] theorem gAdd_str {x y : Str} : gAdd (.str x) (.str y) = if x.length + y.length ≤ 100000 then some (.val (.str (x ++ y))) else none := by
  unfold gAdd alt oI gAddS gCatT
  dsimp only
  split <;> simp_all
@[simp] theorem gAdd_tup {x y : List D} : gAdd (.tuple x) (.tuple y) = if x.length + y.length ≤ 100000 then some (.val (.tuple (x ++ y))) else none := rfl
@[simp] theorem gSub_int : DL.gSub (.int i) (.int j) = some (.val (.int (i - j))) := rfl
@[simp] theorem gMul_int : gMul (.int i) (.int j) = if mulC i j = true then some (.val (.int (i * j))) else none := by
  unfold gMul oI
  dsimp only
  split <;> rfl
@[simp] theorem gMulR_int : gMulR (.int i) (.int j) = if sm j = true then some (.val (.int (i * j))) else none := by
  unfold gMulR oI
  dsimp only
  split <;> rfl
@[simp] theorem gMulL_int : gMulL (.int i) (.int j) = if sm i = true then some (.val (.int (i * j))) else none := by
  unfold gMulL oI
  dsimp only
  split <;> rfl
@[simp] theorem gDiv_int : gDiv (.int i) (.int j) = if 0 < j ∧ j < 2 ^ 64 then some (.val (.int (i / j))) else none := by
  unfold gDiv oI
  simp only [Bool.and_eq_true, decide_eq_true_eq]
  split <;> rfl
@[simp] theorem gMod_int : gMod (.int i) (.int j) = if 0 < j then some (.val (.int (i % j))) else none := by
  unfold gMod oI
  simp only [decide_eq_true_eq]
  split <;> rfl
@[simp] theorem gPow_int : gPow (.int i) (.int j) = if 0 ≤ j ∧ j ≤ 1000 ∧ i.natAbs < 2 ^ 64 then some (.val (.int (i ^ j.toNat))) else none := by
  unfold gPow oI
  simp only [Bool.and_eq_true, decide_eq_true_eq, and_assoc]
  split <;> rfl
@[simp] theorem gNeg_int : gNeg (.int i) = some (.val (.int (-i))) := rfl
@[simp] theorem gLt_int : gLt (.int i) (.int j) = some (.val (.bool (decide (i < j)))) := rfl
@[simp] theorem gLe_int : gLe (.int i) (.int j) = some (.val (.bool (decide (i ≤ j)))) := rfl
@[simp] theorem gGt_int : gGt (.int i) (.int j) = some (.val (.bool (decide (j < i)))) := rfl
@[simp] theorem gGe_int : gGe (.int i) (.int j) = some (.val (.bool (decide (j ≤ i)))) := rfl
@[simp] theorem gEq_int : gEq (.int i) (.int j) = some (.val (.bool (decide (i = j)))) := rfl
@[simp] theorem gNe_int : gNe (.int i) (.int j) = some (.val (.bool (!decide (i = j)))) := rfl
@[simp] theorem gEq_str {x y : Str} : gEq (.str x) (.str y) = some (.val (.bool (decide (x = y)))) := rfl
@[simp] theorem gNe_str {x y : Str} : gNe (.str x) (.str y) = some (.val (.bool (!decide (x = y)))) := rfl
@[simp] theorem gEq_bool {x y : Bool} : gEq (.bool x) (.bool y) = some (.val (.bool (decide (x = y)))) := rfl
@[simp] theorem gNe_bool {x y : Bool} : gNe (.bool x) (.bool y) = some (.val (.bool (!decide (x = y)))) := rfl
@[simp] theorem gIs_ap : gIs d .none = some (.val (.bool (isNoneD d))) := rfl
@[simp] theorem gIsN_ap : gIsN d .none = some (.val (.bool (!isNoneD d))) := rfl
@[simp] theorem isNone_none : isNoneD .none = true := rfl
@[simp] theorem isNone_int : isNoneD (.int i) = false := rfl
@[simp] theorem isNone_tup {x : List D} : isNoneD (.tuple x) = false := rfl
@[simp] theorem isNone_str {x : Str} : isNoneD (.str x) = false := rfl
@[simp] theorem gIx_list {x : List D} : gIx (.list x) (.int i) = (atI x i).map .val := rfl
@[simp] theorem gIx_tup {x : List D} : gIx (.tuple x) (.int i) = (atI x i).map .val := rfl
@[simp] theorem gSl_tup {x : List D} {lo hi : Option Int} : gSl (.tuple x) lo hi = some (.val (.tuple (cutD x lo hi))) := rfl
@[simp] theorem gSl_list {x : List D} {lo hi : Option Int} : gSl (.list x) lo hi = some (.new (.list (cutD x lo hi))) := rfl
@[simp] theorem c1_ap {o : D → Option Res} : c1 o [d] = o d := rfl
@[simp] theorem gLen_list {x : List D} : gLen (.list x) = some (.val (.int (x.length : Int))) := rfl
@[simp] theorem gLen_tup {x : List D} : gLen (.tuple x) = some (.val (.int (x.length : Int))) := rfl
@[simp] theorem gInt_int : gInt (.int i) = some (.val (.int i)) := rfl
@[simp] theorem gList_list {x : List D} : gList (.list x) = some (.new (.list x)) := rfl
@[simp] theorem gList_tup {x : List D} : gList (.tuple x) = some (.new (.list x)) := rfl
@[simp] theorem gTuple_list {x : List D} : gTuple (.list x) = some (.val (.tuple x)) := rfl
@[simp] theorem gTuple_tup {x : List D} : gTuple (.tuple x) = some (.val (.tuple x)) := rfl
@[simp] theorem truD_none : truD .none = some false := rfl
@[simp] theorem truD_bool {b : Bool} : truD (.bool b) = some b := rfl
@[simp] theorem truD_int : truD (.int i) = some (i != 0) := rfl
@[simp] theorem truD_list {x : List D} : truD (.list x) = some (!x.isEmpty) := rfl
@[simp] theorem truD_tup {x : List D} : truD (.tuple x) = some (!x.isEmpty) := rfl
@[simp] theorem isi_int_int : isiD "int" (.int i) = some true := by show kitB "int" "int" = _; decide +kernel
@[simp] theorem isi_int_tup {x : List D} : isiD "int" (.tuple x) = some false := by show kitB "tuple" "int" = _; decide +kernel
@[simp] theorem isi_bool_bool {b : Bool} : isiD "bool" (.bool b) = some true := by show kitB "bool" "bool" = _; decide +kernel
@[simp] theorem isi_tup_tup {x : List D} : isiD "tuple" (.tuple x) = some true := by show kitB "tuple" "tuple" = _; decide +kernel
@[simp] theorem isi_list_list {x : List D} : isiD "list" (.list x) = some true := by show kitB "list" "list" = _; decide +kernel
@[simp] theorem isi_bool_int : isiD "bool" (.int i) = some false := by show kitB "int" "bool" = _; decide +kernel
/-! statements -/
theorem iSeq_next (h : s env = some (.next e)) : iSeq s u env = u e := by unfold iSeq; rw [h]
theorem iSeq_ret (h : s env = some (.ret r e)) : iSeq s u env = some (.ret r e) := by unfold iSeq; rw [h]
@[simp] theorem iNext_ap : iNext env = some (.next env) := rfl
@[simp] theorem iRet_val (h : f env = some (.val d, e)) : iRet f env = some (.ret (.val d) e) := by unfold iRet; rw [h]; rfl
@[simp] theorem iRet_new (h : f env = some (.new d, e)) : iRet f env = some (.ret (.new d) e) := by unfold iRet; rw [h]; rfl
theorem iIfS_true (h : c env = some (true, e)) : iIfS c s u env = s e := by unfold iIfS; rw [h]; rfl
theorem iIfS_false (h : c env = some (false, e)) : iIfS c s u env = u e := by unfold iIfS; rw [h]; rfl
theorem iAsg_val {ow : Bool} (h : f env = some (.val d, e)) (k : setV e n (.val d) = some env') : iAsg ow n f env = some (.next env') := by unfold iAsg; rw [h]; simp [k]
theorem iAsg_new {ow : Bool} (h : f env = some (.new d, e)) (k : setV e n (if ow then .own false d else .val d) = some env') : iAsg ow n f env = some (.next env') := by unfold iAsg; rw [h]; simp [k]
end
/-! ### what a body comes to -/
def Ret (P : Res → Nv → Prop) (o : Option Fl) : Prop := ∃ r e, o = some (.ret r e) ∧ P r e
def Nxt (P : Nv → Prop) (o : Option Fl) : Prop := ∃ e, o = some (.next e) ∧ P e
/-- it returns so, or goes on so -/
def RetOr (P : Res → Nv → Prop) (N : Nv → Prop) (o : Option Fl) : Prop := Ret P o ∨ Nxt N o
section
variable {s u : StF} {env e : Nv} {P N : Nv → Prop} {Q : Res → Nv → Prop} {W : Option Fl → Prop} {c : EvT} {f : EvF} {d : D} {n : Nat} {b : Bool}
theorem seq_ret (P : Nv → Prop) (h : Nxt P (s env)) (k : ∀ e, P e → Ret Q (u e)) : Ret Q (iSeq s u env) := by
  obtain ⟨e, h1, h2⟩ := h
  rw [iSeq_next h1]
  exact k e h2
theorem seq_nxt (P : Nv → Prop) (h : Nxt P (s env)) (k : ∀ e, P e → Nxt N (u e)) : Nxt N (iSeq s u env) := by
  obtain ⟨e, h1, h2⟩ := h
  rw [iSeq_next h1]
  exact k e h2
theorem seq_or (P : Nv → Prop) (h : RetOr Q P (s env)) (k : ∀ e, P e → Ret Q (u e)) : Ret Q (iSeq s u env) := by
  rcases h with ⟨r, e, h1, h2⟩ | h
  · exact ⟨r, e, iSeq_ret h1, h2⟩
  · exact seq_ret P h k
/-- a statement that is known -/
theorem seq_is (h : s env = some (.next e)) (k : W (u e)) : W (iSeq s u env) := by rw [iSeq_next h]; exact k
theorem if_b (h : c env = some (b, e)) (k1 : b = true → W (s e)) (k2 : b = false → W (u e)) : W (iIfS c s u env) := by
  cases b with
  | true => rw [iIfS_true h]; exact k1 rfl
  | false => rw [iIfS_false h]; exact k2 rfl
/-- a test told by a proposition -/
theorem if_p {p : Prop} [Decidable p] (h : c env = some (decide p, e)) (k1 : p → W (s e)) (k2 : ¬ p → W (u e)) : W (iIfS c s u env) :=
  if_b h (fun z => k1 (of_decide_eq_true z)) fun z => k2 (of_decide_eq_false z)
theorem ret_val (h : f env = some (.val d, e)) (q : Q (.val d) e) : Ret Q (iRet f env) := ⟨_, _, iRet_val h, q⟩
theorem ret_new (h : f env = some (.new d, e)) (q : Q (.new d) e) : Ret Q (iRet f env) := ⟨_, _, iRet_new h, q⟩
theorem ret_own (h : f env = some (.own n, e)) (k : e[n]? = some (.own false d)) (q : Q (.new d) (e.set n .no)) : Ret Q (iRet f env) := by
  refine ⟨_, _, ?_, q⟩
  unfold iRet
  rw [h]
  simp [k]
theorem asg_val {ow : Bool} {e' : Nv} (h : f env = some (.val d, e)) (k : setV e n (.val d) = some e') (p : P e') : Nxt P (iAsg ow n f env) := ⟨_, iAsg_val h k, p⟩
theorem asg_new {ow : Bool} {e' : Nv} (h : f env = some (.new d, e)) (k : setV e n (if ow then .own false d else .val d) = some e') (p : P e') : Nxt P (iAsg ow n f env) := ⟨_, iAsg_new h k, p⟩
theorem nxt_here (p : P env) : Nxt P (iNext env) := ⟨_, rfl, p⟩
/-- a def of this body -/
theorem run_of {n N : Nat} {g : StF} {sls : List Sl} {P : Res → List Sl → Prop} (h : Ret (fun r e => notOwnR r = true ∧ ∃ o, outs sls e = some o ∧ P r o) (g (sls ++ List.replicate (N - n) .no))) (hn : sls.length = n := by rfl) (h2 : n ≤ N := by decide) (hp : parOnly sls = true := by rfl) :
    ∃ r o, runDef n N g sls = some (r, o) ∧ P r o := by
  obtain ⟨r, e, h1, h3, o, h4, h5⟩ := h
  refine ⟨r, o, ?_, h5⟩
  unfold runDef
  rw [if_pos ⟨hn, h2, hp⟩, h1]
  simp [h3, h4]
/-- .. whose arguments are values -/
theorem run_val {n N : Nat} {g : StF} {sls : List Sl} {P : D → Prop} (h : Ret (fun r e => ∃ d, r = .val d ∧ outs sls e = some sls ∧ P d) (g (sls ++ List.replicate (N - n) .no))) (hn : sls.length = n := by rfl) (h2 : n ≤ N := by decide) (hp : parOnly sls = true := by rfl) :
    ∃ d, runDef n N g sls = some (.val d, sls) ∧ P d := by
  obtain ⟨r, e, h1, d, rfl, h4, h5⟩ := h
  refine ⟨d, ?_, h5⟩
  unfold runDef
  rw [if_pos ⟨hn, h2, hp⟩, h1]
  simp [h4, notOwnR]
theorem run_eq {n N : Nat} {g : StF} {sls : List Sl} {d : D} (h : Ret (fun r e => r = .val d ∧ outs sls e = some sls) (g (sls ++ List.replicate (N - n) .no))) (hn : sls.length = n := by rfl) (h2 : n ≤ N := by decide) (hp : parOnly sls = true := by rfl) : runDef n N g sls = some (.val d, sls) := by
  obtain ⟨r, e, h1, rfl, h4⟩ := h
  unfold runDef
  rw [if_pos ⟨hn, h2, hp⟩, h1]
  simp [h4, notOwnR]
theorem run_new {n N : Nat} {g : StF} {sls : List Sl} {d : D} (h : Ret (fun r e => r = .new d ∧ outs sls e = some sls) (g (sls ++ List.replicate (N - n) .no))) (hn : sls.length = n := by rfl) (h2 : n ≤ N := by decide) (hp : parOnly sls = true := by rfl) : runDef n N g sls = some (.new d, sls) := by
  obtain ⟨r, e, h1, rfl, h4⟩ := h
  unfold runDef
  rw [if_pos ⟨hn, h2, hp⟩, h1]
  simp [h4, notOwnR]
end
theorem opd_is {f : EvF} {env e : Nv} {r : Res} (h : f env = some (r, e)) : opd f env = some (pub r, e) := by unfold opd; rw [h]; rfl
section
variable {f fa fb : EvF} {c t : EvT} {env e e1 e2 : Nv} {r : Res} {d d' : D} {b : Bool}
theorem opd_val (h : f env = some (.val d, e)) : opd f env = some (.val d, e) := opd_is h
theorem opd_new (h : f env = some (.new d, e)) : opd f env = some (.val d, e) := opd_is h
theorem bop_is {g : D → D → Option Res} (ha : opd fa env = some (.val d, e1)) (hb : opd fb e1 = some (.val d', e2)) (hg : g d d' = some r) : iBin g fa fb env = some (r, e2) := by
  unfold iBin
  rw [ha]
  show ((opd fb e1).bind _) = _
  rw [hb]
  show ((g d d').bind _) = _
  rw [hg]
  rfl
theorem chn_t {g g' : D → D → Option Res} {fc : EvF} {d'' : D} {e3 : Nv} (ha : opd fa env = some (.val d, e1)) (hb : opd fb e1 = some (.val d', e2)) (hg : g d d' = some (.val (.bool true))) (hc : opd fc e2 = some (.val d'', e3)) (hg' : g' d' d'' = some r) : iChn g g' fa fb fc env = some (r, e3) := by
  unfold iChn
  rw [ha]
  show ((opd fb e1).bind _) = _
  rw [hb]
  show ((g d d').bind _) = _
  rw [hg]
  show ((opd fc e2).bind _) = _
  rw [hc]
  show ((g' d' d'').bind _) = _
  rw [hg']
  rfl
theorem tst_is (h : f env = some (.val (.bool b), e)) : iTst f env = some (b, e) := by unfold iTst; rw [h]; rfl
theorem tru_is (h : opd f env = some (.val d, e)) (k : truD d = some b) : iTru f env = some (b, e) := by
  unfold iTru
  rw [h]
  show ((truD d).bind _) = _
  rw [k]
  rfl
theorem notT_is (h : c env = some (b, e)) : iNotT c env = some (!b, e) := by unfold iNotT; rw [h]; rfl
theorem andT_t (h : c env = some (true, e)) : iAndT c t env = t e := by unfold iAndT; rw [h]; rfl
theorem andT_f (h : c env = some (false, e)) : iAndT c t env = some (false, e) := by unfold iAndT; rw [h]; rfl
theorem orT_t (h : c env = some (true, e)) : iOrT c t env = some (true, e) := by unfold iOrT; rw [h]; rfl
theorem orT_f (h : c env = some (false, e)) : iOrT c t env = t e := by unfold iOrT; rw [h]; rfl
theorem and_t (h : fa env = some (.val (.bool true), e)) : iAnd fa fb env = fb e := by unfold iAnd; rw [h]; rfl
theorem and_f (h : fa env = some (.val (.bool false), e)) : iAnd fa fb env = some (.val (.bool false), e) := by unfold iAnd; rw [h]; rfl
theorem not_is (h : fa env = some (.val (.bool b), e)) : iNot fa env = some (.val (.bool (!b)), e) := by unfold iNot; rw [h]; rfl
theorem cb_is {g : D → Option Res} (h : opd f env = some (.val d, e)) (k : g d = some r) : iCB (c1 g) (argC f argN) env = some (r, e) := by
  unfold iCB argC
  rw [h]
  show ((g d).bind _) = _
  rw [k]
  rfl
theorem tup1_is {d1 : D} (h1 : opd f env = some (.val d1, e1)) : DL.iTup (argC f argN) env = some (.val (.tuple [d1]), e1) := by
  have q : argC f argN env = some ([.val d1], e1) := by unfold argC; rw [h1]; rfl
  unfold DL.iTup
  rw [q]
  rfl
theorem tup2_is {d1 d2 : D} (h1 : opd f env = some (.val d1, e1)) (h2 : opd fa e1 = some (.val d2, e2)) : DL.iTup (argC f (argC fa argN)) env = some (.val (.tuple [d1, d2]), e2) := by
  have q : argC f (argC fa argN) env = some ([.val d1, .val d2], e2) := by
    unfold argC
    rw [h1]
    show (((opd fa e1).bind _).bind _) = _
    rw [h2]
    rfl
  unfold DL.iTup
  rw [q]
  rfl
theorem isi_is {T : String} (h : opd f env = some (.val d, e)) (k : isiD T d = some b) : iIsi T f env = some (.val (.bool b), e) := by
  unfold iIsi
  rw [h]
  show ((isiD T d).bind _) = _
  rw [k]
  rfl
end
/-! ### calls whose arguments are values -/
def vals : List D → List Res := List.map .val
theorem sls_vals {env : Nv} : ∀ {ds : List D}, slsOf env (vals ds) = some (ds.map .val)
  | [] => rfl
  | d :: ds => by
    show (slsOf env (vals ds)).bind _ = _
    rw [sls_vals]
    rfl
theorem dup_vals : ∀ {ds : List D}, dupFree (vals ds) = true
  | [] => rfl
  | d :: ds => dup_vals (ds := ds)
theorem back1_vals : ∀ {ds : List D} {ss : List Sl} {i : Nat}, back1 i (vals ds) ss = none
  | [], _, _ => rfl
  | d :: ds, [], _ => rfl
  | d :: ds, s :: ss, i => back1_vals (ds := ds) (ss := ss) (i := i)
theorem back_vals {ds : List D} {ss : List Sl} {env : Nv} : back (vals ds) ss env = env := by
  apply List.ext_getElem?
  intro i
  rw [back_at]
  cases env[i]? with
  | none => rfl
  | some s =>
    cases s with
    | no => rfl
    | val _ => rfl
    | own p d =>
      show some (match back1 i (vals ds) ss with
        | some d' => Sl.own p d'
        | none => Sl.own p d) = _
      rw [back1_vals]
theorem call_vals {g : Fn} {fs : EvA} {env e : Nv} {ds : List D} {r : Res} {o : List Sl} (h : fs env = some (vals ds, e)) (hg : g (ds.map .val) = some (r, o)) (hr : notOwnR r = true) : iCall g fs env = some (r, e) := by
  unfold iCall
  rw [h]
  simp [sls_vals, dup_vals, hg, hr, back_vals]
theorem call1 {g : Fn} {f : EvF} {env e : Nv} {d : D} {r : Res} {o : List Sl} (h : opd f env = some (.val d, e)) (hg : g [.val d] = some (r, o)) (hr : notOwnR r = true := by rfl) : iCall g (argC f argN) env = some (r, e) :=
  call_vals (ds := [d]) (by simp only [argC_ap, h, argN_ap, Option.bind_some]; rfl) hg hr
theorem call2 {g : Fn} {f f2 : EvF} {env e e2 : Nv} {d d2 : D} {r : Res} {o : List Sl} (h : opd f env = some (.val d, e)) (h2 : opd f2 e = some (.val d2, e2)) (hg : g [.val d, .val d2] = some (r, o)) (hr : notOwnR r = true := by rfl) : iCall g (argC f (argC f2 argN)) env = some (r, e2) :=
  call_vals (ds := [d, d2]) (by simp only [argC_ap, h, h2, argN_ap, Option.bind_some]; rfl) hg hr
theorem call3 {g : Fn} {f f2 f3 : EvF} {env e e2 e3 : Nv} {d d2 d3 : D} {r : Res} {o : List Sl} (h : opd f env = some (.val d, e)) (h2 : opd f2 e = some (.val d2, e2)) (h3 : opd f3 e2 = some (.val d3, e3)) (hg : g [.val d, .val d2, .val d3] = some (r, o)) (hr : notOwnR r = true := by rfl) :
    iCall g (argC f (argC f2 (argC f3 argN))) env = some (r, e3) :=
  call_vals (ds := [d, d2, d3]) (by simp only [argC_ap, h, h2, h3, argN_ap, Option.bind_some]; rfl) hg hr
/-- simp's form: arguments one by one -/
@[simp] theorem iCall1_ap {g : Fn} {f : EvF} {env : Nv} : iCall g (argC f argN) env = (opd f env).bind fun p => (slsOf p.2 [p.1]).bind fun ss => if dupFree [p.1] = true then (g ss).bind fun q => if notOwnR q.1 = true then some (q.1, back [p.1] q.2 p.2) else none else none := by
  unfold iCall
  simp only [argC_ap, argN_ap]
  cases opd f env <;> rfl
/-! ### loops -/
def Free (w : Sl) : Prop := ∀ d, w ≠ .own true d
theorem free_no : Free .no := fun d z => by cases z
theorem free_val {d : D} : Free (.val d) := fun d z => by cases z
theorem free_own {d : D} : Free (.own false d) := fun d z => by cases z
theorem setV_free {env : Nv} {i : Nat} {w s : Sl} (h : env[i]? = some w) (f : Free w) : setV env i s = some (env.set i s) := by
  unfold setV
  rw [h]
  cases w with
  | no => rfl
  | val _ => rfl
  | own p d => cases p with
    | true => exact absurd rfl (f d)
    | false => rfl
theorem floop_nxt {tg : TgF} {body : StF} : ∀ (ds : List D) (I : Nat → Nv → Prop) (k : Nat) (env : Nv), I k env → (∀ i d e, ds[i]? = some d → I (k + i) e → ∃ e1, tg e d = some e1 ∧ Nxt (I (k + i + 1)) (body e1)) → Nxt (I (k + ds.length)) (floop tg body ds env)
  | [], I, k, env, h, _ => ⟨env, rfl, h⟩
  | d :: ds, I, k, env, h, st => by
    obtain ⟨e1, h1, e2, h2, h3⟩ := st 0 d env rfl h
    have rec' := floop_nxt ds I (k + 1) e2 h3 fun i d e hd hi => by
      have := st (i + 1) d e hd (by rw [show k + (i + 1) = k + 1 + i by omega]; exact hi)
      rw [show k + (i + 1) + 1 = k + 1 + i + 1 by omega] at this
      exact this
    rw [show k + 1 + ds.length = k + (d :: ds).length by rw [List.length_cons]; omega] at rec'
    obtain ⟨e3, h4, h5⟩ := rec'
    refine ⟨e3, ?_, h5⟩
    simp only [floop, h1, Option.bind_some, h2]
    exact h4
/-- a loop that may leave by a return -/
theorem floop_or {tg : TgF} {body : StF} {Q : Res → Nv → Prop} : ∀ (ds : List D) (I : Nat → Nv → Prop) (k : Nat) (env : Nv), I k env → (∀ i d e, ds[i]? = some d → I (k + i) e → ∃ e1, tg e d = some e1 ∧ RetOr Q (I (k + i + 1)) (body e1)) → RetOr Q (I (k + ds.length)) (floop tg body ds env)
  | [], I, k, env, h, _ => .inr ⟨env, rfl, h⟩
  | d :: ds, I, k, env, h, st => by
    obtain ⟨e1, h1, h2⟩ := st 0 d env rfl h
    rcases h2 with ⟨r, e2, h2, h3⟩ | ⟨e2, h2, h3⟩
    · exact .inl ⟨r, e2, by simp only [floop, h1, Option.bind_some, h2], h3⟩
    have rec' := floop_or ds I (k + 1) e2 h3 fun i d e hd hi => by
      have := st (i + 1) d e hd (by rw [show k + (i + 1) = k + 1 + i by omega]; exact hi)
      rw [show k + (i + 1) + 1 = k + 1 + i + 1 by omega] at this
      exact this
    rw [show k + 1 + ds.length = k + (d :: ds).length by rw [List.length_cons]; omega] at rec'
    have e0 : floop tg body (d :: ds) env = floop tg body ds e2 := by simp only [floop, h1, Option.bind_some, h2]
    rw [e0]
    exact rec'
theorem for_nxt {it : ItF} {tg : TgF} {body : StF} {env e : Nv} {ds : List D} {N : Nv → Prop} (I : Nat → Nv → Prop) (hi : it env = some (ds, e)) (h0 : I 0 e) (st : ∀ i d e, ds[i]? = some d → I i e → ∃ e1, tg e d = some e1 ∧ Nxt (I (i + 1)) (body e1)) (hd : ∀ e, I ds.length e → N e) : Nxt N (iFor it tg body env) := by
  unfold iFor
  rw [hi]
  have h := floop_nxt (tg := tg) (body := body) ds I 0 e h0 fun i d e hd h => by
    rw [Nat.zero_add] at h ⊢
    exact st i d e hd h
  rw [Nat.zero_add] at h
  obtain ⟨e2, h1, h2⟩ := h
  exact ⟨e2, h1, hd e2 h2⟩
theorem for_or {it : ItF} {tg : TgF} {body : StF} {env e : Nv} {ds : List D} {N : Nv → Prop} {Q : Res → Nv → Prop} (I : Nat → Nv → Prop) (hi : it env = some (ds, e)) (h0 : I 0 e) (st : ∀ i d e, ds[i]? = some d → I i e → ∃ e1, tg e d = some e1 ∧ RetOr Q (I (i + 1)) (body e1)) (hd : ∀ e, I ds.length e → N e) : RetOr Q N (iFor it tg body env) := by
  unfold iFor
  rw [hi]
  have h := floop_or (tg := tg) (body := body) (Q := Q) ds I 0 e h0 fun i d e hd h => by
    rw [Nat.zero_add] at h ⊢
    exact st i d e hd h
  rw [Nat.zero_add] at h
  rcases h with h | ⟨e2, h1, h2⟩
  · exact .inl h
  · exact .inr ⟨e2, h1, hd e2 h2⟩
theorem rng_get {lo : Int} {n i : Nat} {d : D} (h : (rngD lo n)[i]? = some d) : d = .int (lo + (i : Int)) ∧ i < n := by
  have hi := (List.getElem?_eq_some_iff.mp h).1
  rw [rngD_len] at hi
  rw [rngD_get hi] at h
  exact ⟨(Option.some.inj h).symm, hi⟩
theorem smR_is {n : Nat} (h : n ≤ 1000000) : smR (n : Int) = true := by
  simp only [smR, Bool.and_eq_true, decide_eq_true_eq]
  omega
theorem r1_is {f : EvF} {env e : Nv} {n : Nat} (h : opd f env = some (.val (.int (n : Int)), e)) (hn : n ≤ 1000000) : iR1 (argC f argN) env = some (rngD 0 n, e) := by
  have q : argC f argN env = some ([.val (.int (n : Int))], e) := by
    unfold argC argN
    rw [h]
    rfl
  unfold iR1
  rw [q]
  exact if_pos (smR_is hn)
theorem app_is {f : EvF} {env e : Nv} {i : Nat} {d : D} {p p0 : Bool} {ds ds0 : List D} (h0 : env[i]? = some (.own p0 (.list ds0))) (h : opd f env = some (.val d, e)) (h1 : e[i]? = some (.own p (.list ds))) (hz : ds.length < 100000) : iApp i f env = some (.next (e.set i (.own p (.list (ds ++ [d]))))) := by
  unfold iApp
  rw [h0]
  simp only [h, Option.bind_some, vis_val, h1, hz, if_true]
end DL

/-! enumerate over a tuple; a list or a tuple backwards; a tuple at a list's end. -/
namespace L2
open PySem PySem.Spec PyProof.Rows
open Sem (wp)
open AutoSeq1 (wpAny_loadPart')
theorem meets_enumerate_newT (l : Addr) (items : Array Value) (n : Nat) (dct : Option Addr) (sl : Array (Option Value)) :
    Meets (Builtin.«enumerate.__new__» ⟨[.type "enumerate", .ref l], []⟩) (fun _ R s => s.heap.get? l = some { cls := .type "tuple", dict := dct, data := .seq items n, slots := sl } ∧
      R (.ok (.ret (.ref (s.heap.push { cls := .type "tuple_iterator", data := .fields #[.ref l, .int 0 0] }).objs.size)))
        { s with heap := (s.heap.push { cls := .type "tuple_iterator", data := .fields #[.ref l, .int 0 0] }).push { cls := .type "enumerate", data := .fields #[.none, .bool false, .ref s.heap.objs.size, rawInt 0, .none, .none] } }) :=
  .of_wp fun prog w A R s h => by
    obtain ⟨hp, g, d, tk, os⟩ := s; obtain ⟨hl, h⟩ := h
    have hsub := sub_enumerate
    have hL : Heap.IsTuple (Shared.heap ⟨hp, g, d, tk, os⟩) l items := ⟨_, hl, rfl, n, rfl⟩
    wp_walk using wpAny_loadPart' hl
    refine wpAny_stack_any fun st => wpAny_pure ?_
    split
    · rename_i c _ _ _ _ _
      cases (c == Value.type "enumerate")
      · wp_walk using wpAny_loadPart' hl, wpAny_pyIter_tuple hL
        exact ⟨_, rfl, h⟩
      · wp_walk using wpAny_loadPart' hl, wpAny_pyIter_tuple hL
        exact ⟨_, rfl, h⟩
    · wp_walk using wpAny_loadPart' hl, wpAny_pyIter_tuple hL
      exact ⟨_, rfl, h⟩
section
variable {prog : Program} {w : World} {A : Around} {E : Value → Shared → Prop} {s : Shared}
theorem call_enumerate_tuple {l : Addr} {items : Array Value} {Q : Value → Shared → Prop} (hL : s.heap.IsTuple l items)
    (h : ∀ h', IsEnum h' (s.heap.objs.size + 1) s.heap.objs.size 0 .none → h'.IsTupleIter s.heap.objs.size l 0 →
      (∀ b o, s.heap.get? b = some o → h'.get? b = some o) → Q (.ref (s.heap.objs.size + 1)) { s with heap := h' }) :
    wpAny (model prog w) A (call (.type "enumerate") [.ref l]) Q E s := by
  obtain ⟨⟨c, dct, dt, sl⟩, hl, hc, n, hd⟩ := hL
  replace hc : c = .type "tuple" := hc
  replace hd : dt = .seq items n := hd
  subst hc hd
  refine callType_new F.called_enumerate (by decide) (F.typeCall_enumerate_1 _) (F.newCall_enumerate_1 _) (fun obj => F.args_object_init_2 obj _) F.entry_enumerate_new
    (meets_enumerate_newT l items n dct sl) ⟨hl, ?_⟩
  have hz : (s.heap.push { cls := .type "tuple_iterator", data := .fields #[.ref l, .int 0 0] }).objs.size = s.heap.objs.size + 1 := Heap.size_push ..
  show _ ∧ _
  rw [hz]
  have he : IsEnum ((s.heap.push { cls := .type "tuple_iterator", data := .fields #[.ref l, .int 0 0] }).push
      { cls := .type "enumerate", data := .fields #[.none, .bool false, .ref s.heap.objs.size, rawInt 0, .none, .none] }) (s.heap.objs.size + 1) s.heap.objs.size 0 .none := by
    have := Heap.get?_push_size (s.heap.push { cls := .type "tuple_iterator", data := .fields #[.ref l, .int 0 0] })
      (o := { cls := .type "enumerate", data := .fields #[.none, .bool false, .ref s.heap.objs.size, rawInt 0, .none, .none] }) rfl
    rw [hz] at this; exact this
  refine ⟨⟨_, he, rfl⟩, h _ he ⟨_, Heap.get?_push_of_some _ (Heap.get?_push_size _ rfl), rfl, rfl⟩ fun b o x => Heap.get?_push_of_some _ (Heap.get?_push_of_some _ x)⟩
end
/-- the tuple at a, each item in a new pair -/
def IteT (K : PySem.W.Frag) (a : Addr) : It :=
  ⟨fun i H => ∃ (xs : List V) (x : V), SqT K H a xs ∧ xs[i]? = some x, fun i H v H' => ∃ T x, v = .ref T ∧ H T = none ∧ H' = upd H T (.tup [.int (i : Nat), x]) ∧ ∀ xs, SqT K H a xs → xs[i]? = some x, fun i H => ∃ xs : List V, SqT K H a xs ∧ xs.length = i⟩
theorem enum_ne {h : Heap} {e it a : Addr} {i : Int} {old : Value} {items : Array Value} (he : IsEnum h e it i old) (p : h.IsTuple a items) : e ≠ a := by
  intro z
  subst z
  obtain ⟨o, h1, h2, _⟩ := p
  rw [show h.get? e = some _ from he] at h1
  cases h1
  have q := Value.type.inj h2
  exact absurd q (by decide)
theorem titer_ne {h : Heap} {it a b : Addr} {i : Nat} {items : Array Value} (hi : h.IsTupleIter it b i) (p : h.IsTuple a items) : a ≠ it := by
  intro z
  subst z
  obtain ⟨o, h1, h2, _⟩ := p
  obtain ⟨o', g1, g2, _⟩ := hi
  rw [g1] at h1
  cases h1
  rw [g2] at h2
  have q := Value.type.inj h2
  exact absurd q (by decide)
theorem turn_enumT {P : Program} {w : World} {K : PySem.W.Frag} {elts : List Expr} {kk : Nat} {tpos : Pos} (a e it : Addr) :
    Turn P w K (.Tuple elts kk tpos) (IteT K a) [e, it] e (fun i h => (∃ old, IsEnum h e it ((i : Nat) : Int) old) ∧ h.IsTupleIter it a i ∧ e ≠ it) where
  mem := by simp
  obj := fun i h st b hb => by
    obtain ⟨⟨old, he⟩, ⟨o, ho, hc, hd⟩, _⟩ := st
    have e' : b = e ∨ b = it := by simpa using hb
    rcases e' with z | z
    · rw [z]; exact ⟨_, he, fun v q => nomatch q⟩
    · rw [z]; exact ⟨o, ho, fun v q => by rw [hd] at q; cases q⟩
  keep := fun i h h' st k => let ⟨⟨old, he⟩, hi, hne⟩ := st; ⟨⟨old, k e (by simp) _ he⟩, hi.at fun o q => k it (by simp) o q, hne⟩
  item := by
    intro X hP hw hK hc i pins s σ H E I hf st hg
    subst hP hw hK
    obtain ⟨⟨old, he⟩, hit, hne⟩ := st
    obtain ⟨xs, x, hq, hx⟩ := hg
    obtain ⟨its, rv, p, hz⟩ := I.tuple hq
    have p' : s.heap.IsTuple a its.toArray := p
    obtain ⟨u, hu, ru⟩ := rv.get hx
    have hil := (List.getElem?_eq_some_iff.mp hu).1
    have hel : e < s.heap.objs.size := Heap.lt_size he
    have hil2 : it < s.heap.objs.size := by obtain ⟨_, q, _⟩ := hit; exact Heap.lt_size q
    have D := Draws.tuple (prog := X.prog) (w := X.w) (A := X.A.in1) (show X.A.in1.handled = none from I.ok.hd hc) it a (titer_ne hit p') its.toArray
    have hef : e ∉ [it, a] := by
      intro z
      rcases List.mem_cons.mp z with z | z
      · exact hne z
      · exact enum_ne he p' (List.mem_singleton.mp z)
    refine wpAny_pyNext_enum_itemD D he ⟨hit, p'⟩ (by rw [List.size_toArray]; exact hil) hne hef fun x' h' tk hP' ho hit' hT hsz hk => ?_
    have hx' : x' = u := by
      have : its.toArray[i]? = some x' := hP'
      rw [List.getElem?_toArray, hu] at this
      exact (Option.some.inj this).symm
    subst hx'
    refine ⟨_, rfl, wpAny_letOwnedTupleGo_enum (s := { s with heap := h', toks := tk + 1 }) ho fun h'' he' sb => ?_⟩
    have hT2 : h''.get? s.heap.objs.size = some { cls := .type "tuple", data := .seq #[.int i tk, x'] } := (sb.2 _ (Nat.ne_of_gt hel)).trans hT
    have new : ObjOk X.prog X.w (upd H s.heap.objs.size (.tup [.int (i : Nat), x])) h'' s.heap.objs.size (.tup [.int (i : Nat), x]) :=
      ⟨by show 2 ≤ sizeLine; decide, [.int i tk, x'], .cons ⟨_, rfl⟩ (.cons ru .nil), ⟨_, hT2, rfl, _, rfl⟩⟩
    have I1 : Inv X pins σ (upd H s.heap.objs.size (.tup [.int (i : Nat), x])) { s with heap := h'', toks := tk + 1 } :=
      I.turnedNew (ch := [e, it]) (fun b ob hb q => (sb.2 b (fun z => hb (by simp [z]))).trans (hk b ob (fun z => hb (by simp [z])) (fun z => hb (by simp [z])) q)) hf (Nat.le_refl _) new
    refine ⟨.ref s.heap.objs.size, _, I1, rfl, ⟨_, x, rfl, I.hok.fresh (Nat.le_refl _), rfl, fun ys hy => by rw [I.tuple_inj hy hq]; exact hx⟩, ⟨⟨x', ?_⟩, hit'.1.at fun o q => (sb.2 it (Ne.symm hne)).trans q, hne⟩, fun b hb => ?_⟩
    · have e1 : ((i + 1 : Nat) : Int) = (i : Int) + 1 := by omega
      rw [e1]; exact he'
    · have hb' : b < s.heap.objs.size := by
        have e' : b = e ∨ b = it := by simpa using hb
        rcases e' with z | z
        · rw [z]; exact hel
        · rw [z]; exact hil2
      rw [upd_ne (Nat.ne_of_lt hb')]
      exact (hf b hb).1
  done := by
    intro X hP hw hK hc i pins s σ H E I hf st hg
    subst hP hw hK
    obtain ⟨⟨old, he⟩, hit, hne⟩ := st
    obtain ⟨xs, hq, hx⟩ := hg
    obtain ⟨its, rv, p, hz⟩ := I.tuple hq
    have p' : s.heap.IsTuple a its.toArray := p
    obtain ⟨f0, f1, f2, f3, f4, f5⟩ := hf it (by simp)
    have hl := rv.length
    have D := Draws.tuple (prog := X.prog) (w := X.w) (A := X.A.in1) (show X.A.in1.handled = none from I.ok.hd hc) it a (titer_ne hit p') its.toArray
    have hn : i = its.toArray.size := by rw [List.size_toArray]; omega
    subst hn
    exact wpAny_pyNext_enum_endD D he ⟨hit, p'⟩ fun h' eb => ⟨rfl, I.turned (t' := s.toks) (fun b o hb q => eb b o hb q) f0 f1 f3 f4 f5⟩
  self := fun A i s Q E st h => let ⟨⟨_, he⟩, _⟩ := st; wpAny_pyIter_enum he h
def iEnumT (K : PySem.W.Frag) (ta : TA) : TI := fun σ H R => ta σ H fun vs H1 => ∃ a xs, vs = [.ref a] ∧ SqT K H1 a xs ∧ R (IteT K a) H1
theorem pi_enumT {X : Cx} {e : Expr} {ta : TA} {p pos tpos : Pos} {elts : List Expr} {kk : Nat} (hg : Gl X "enumerate") (hm : X.mg "enumerate" = none) (ha : PA X [e] ta) (hs : starEach [e] X.env = [(false, eval e X.env)] := by rfl) :
    PI X (.Tuple elts kk tpos) (.Call (.Name "enumerate" p) [e] [] pos) (iEnumT X.K ta) := by
  refine ⟨fun pins s σ H R I h => ?_⟩
  refine Call_ (ld_blt I hg hm boot_enumerate (PyProof.Rows.callWith_type1 (thn (ha.run pos pins s σ H _ I h) fun us s1 ⟨vs, H1, I1, r1, q1⟩ => ?_) hs rfl))
  obtain ⟨a, xs, ex, hq, q⟩ := q1
  subst ex
  cases r1 with
  | cons r rr =>
    cases rr
    cases r
    obtain ⟨its, rv, p', hz⟩ := I1.tuple hq
    refine call_enumerate_tuple (show s1.heap.IsTuple a its.toArray from p') fun h' he hit hk => wpAny_pyIter_enum he ?_
    have I2 : Inv X pins σ H1 { s1 with heap := h' } := I1.kept (t' := s1.toks) hk
    refine ⟨s1.heap.objs.size + 1, [s1.heap.objs.size + 1, s1.heap.objs.size], _, _, H1, rfl, I2, turn_enumT a (s1.heap.objs.size + 1) s1.heap.objs.size, ⟨⟨.none, he⟩, hit, Nat.succ_ne_self _⟩, fun b hb => ?_, q⟩
    have e' : b = s1.heap.objs.size + 1 ∨ b = s1.heap.objs.size := by simpa using hb
    have hle : s1.heap.objs.size ≤ b := by
      rcases e' with z | z
      · rw [z]; exact Nat.le_add_right _ _
      · rw [z]; exact Nat.le_refl _
    exact I1.fpOk hle (I1.hok.fresh hle)
theorem walk_enumT {K : PySem.W.Frag} {a : Addr} {xs : List V} : Walk (IteT K a) xs.length (fun H => SqT K H a xs) (YPair (fun i => some (.int (i : Nat))) (fun i => xs[i]?)) := by
  refine ⟨fun i _ hi q => ⟨xs, xs[i], q, by simp [hi]⟩, fun _ q => ⟨xs, q, rfl⟩, fun i H v H' _ q y => ?_⟩
  obtain ⟨T, x, h1, h2, h3, h4⟩ := y
  exact ⟨T, .int (i : Nat), x, h1, h2, h3, rfl, h4 xs q⟩
end L2

namespace HT
open PySem PySem.Spec PyProof.Rows L2
section
variable {prog : Program} {w : World} {A : Around} {E : Value → Shared → Prop} {s : Shared}
theorem adjust_back (n : Nat) : Builtin.Slice.sliceAdjust none none (-1) (n : Int) = ((n : Int) - 1, -1) := by
  unfold Builtin.Slice.sliceAdjust
  simp
theorem places_back (n : Nat) : Builtin.Slice.slicePlaces ((n : Int) - 1) (-1) (-1) = n := by
  unfold Builtin.Slice.slicePlaces
  have h1 : ¬ ((-1 : Int) > 0) := by omega
  simp only [h1, if_false]
  rw [show (- -1 : Int) = 1 by decide, Int.ediv_one]
  split <;> omega
theorem pick_back (xs : Array Value) : ((List.range xs.size).filterMap fun (m : Nat) => xs[(((xs.size : Int) - 1) + (m : Int) * -1).toNat]?).toArray = xs.toList.reverse.toArray := by
  have e : (List.range xs.size).filterMap (fun (m : Nat) => xs[(((xs.size : Int) - 1) + (m : Int) * -1).toNat]?) = ((List.range xs.size).map fun k => xs.size - 1 - k).filterMap (xs[·]?) := by
    rw [List.filterMap_map]
    have cg : ∀ (l : List Nat) (f g : Nat → Option Value), (∀ m ∈ l, f m = g m) → l.filterMap f = l.filterMap g := by
      intro l f g
      induction l with
      | nil => intro _; rfl
      | cons m l ih =>
        intro h
        rw [List.filterMap_cons, List.filterMap_cons, h m List.mem_cons_self, ih fun z hz => h z (List.mem_cons_of_mem _ hz)]
    apply cg
    intro m hm
    have := List.mem_range.mp hm
    show xs[_]? = xs[xs.size - 1 - m]?
    have : (((xs.size : Int) - 1) + (m : Int) * -1).toNat = xs.size - 1 - m := by omega
    rw [this]
  rw [e, PySem.W.krv_range, List.filterMap_reverse, PySem.W.krv_all]
theorem sliceApplied_back {sl : Addr} {vs : Value} {n : Nat} {Q : Int × Int × Nat → Shared → Prop} (hs : s.heap.IsSliceOf sl .none .none vs) (ps : IsPart vs (some (-1)))
    (h : Q ((n : Int) - 1, -1, n) s) : wpAny (model prog w) A (Builtin.Slice.sliceApplied (.ref sl) (pure (n : Int))) Q E s := by
  obtain ⟨os, hos, hcs, hds⟩ := id hs
  unfold Builtin.Slice.sliceApplied Builtin.Slice.sliceFields
  refine wpAny_bind (wpAny_bind (wpAny_field hos hds (x := .none) rfl (wpAny_bind (wpAny_field hos hds (x := .none) rfl (wpAny_bind (wpAny_field hos hds (x := vs) rfl (wpAny_pure ?_)))))))
  refine wpAny_bind (slicePart_ ps ?_)
  show wpAny _ _ (if ((-1 : Int) == 0) = true then _ else _) _ _ s
  rw [if_neg (by decide)]
  refine wpAny_bind (slicePart_ .none (wpAny_bind (slicePart_ .none (wpAny_bind (wpAny_pure ?_)))))
  show wpAny _ _ (match Builtin.Slice.sliceAdjust none none (-1) (n : Int) with | (lo, hi) => pure (lo, (-1 : Int), Builtin.Slice.slicePlaces lo hi (-1))) _ _ s
  rw [adjust_back n]
  show wpAny _ _ (pure ((n : Int) - 1, (-1 : Int), Builtin.Slice.slicePlaces ((n : Int) - 1) (-1) (-1))) _ _ s
  rw [places_back]
  exact wpAny_pure h
theorem getItem_tuple_back {t sl : Addr} {items : Array Value} {vs : Value} {Q : Value → Shared → Prop} (ht : IsTup s.heap t items) (hs : s.heap.IsSliceOf sl .none .none vs) (ps : IsPart vs (some (-1)))
    (h : Q (.ref s.heap.objs.size) { s with heap := s.heap.push { cls := .type "tuple", data := .seq items.toList.reverse.toArray } })
    (hsz : items.size ≤ sizeLine) : wpAny (model prog w) A (getItem (.ref t) (.ref sl)) Q E s := by
  have htake : sizeOk (.seq items.toList.reverse.toArray) := by
    show items.toList.reverse.toArray.size ≤ sizeLine
    rw [List.size_toArray, List.length_reverse, Array.length_toList]
    exact hsz
  obtain ⟨os, hos, hcs, hds⟩ := id hs
  have hTs : s.TypeIs (.ref sl) "slice" := ⟨os, hos, hcs⟩
  unfold getItem
  try with_reducible refine wpAny_holding ?_
  first | refine wpAny_bind (wpAny_pure ?_) | skip
  refine wpAny_bind (wpAny_sequenceKey ht.typeIs (by decide) ?_)
  refine wpAny_bind (wpAny_callSpecial?_slot (name := Str.ofString "__getitem__") ht.typeIs PyProof.Rows.slot_tuple_getitem
    (wpAny_call_entry PyProof.Rows.slot_tuple_getitem ht.typeIs entry_tuple_getitem ?_ (args_tuple_getitem _ _)))
  show wpAny _ _ (Builtin.Tuple.tupleItemsOf (.ref t) >>= _) _ _ s
  refine wpAny_bind (tupleItemsOf_ ht ?_)
  refine wpAny_bind (wpAny_typeOf hTs ?_)
  rw [if_pos (by decide)]
  refine wpAny_bind (sliceApplied_back hs ps ?_)
  have hno : ¬ ((((items.size : Int) - 1) == 0 && (-1 : Int) == 1 && items.size == items.size) = true) := by
    intro q
    rw [Bool.and_eq_true, Bool.and_eq_true] at q
    exact absurd q.1.2 (by decide)
  show wpAny _ _ (if (((items.size : Int) - 1) == 0 && (-1 : Int) == 1 && items.size == items.size) = true then _ else _) _ _ s
  rw [if_neg hno, pick_back]
  first
    | exact wpAny_bind (m := Builtin.Tuple.tupleExact _) (wpAny_newObj_type (wpAny_pure ⟨_, rfl, wpAny_pure h⟩) htake)
    | exact wpAny_bind (m := Builtin.Tuple.tupleExact _) (wpAny_newObj_type (wpAny_bind (wpAny_pure (wpAny_pure ⟨_, rfl, wpAny_pure h⟩))) htake)
    | exact wpAny_bind (wpAny_bind (m := Builtin.Tuple.tupleExact _) (wpAny_newObj_type (wpAny_pure (wpAny_pure ⟨_, rfl, wpAny_pure h⟩)) htake))
    | exact wpAny_bind (wpAny_bind (m := Builtin.Tuple.tupleExact _) (wpAny_newObj_type (wpAny_pure ⟨_, rfl, wpAny_pure h⟩) htake))
end
end HT
namespace L2
open PySem PySem.Spec PyProof.Rows
section
variable {X : Cx}
/-- xs[::-1], a list or a tuple -/
def tRevU (K : PySem.W.Frag) (te : TE) : TE := fun σ H Q => te σ H fun x H1 => (∃ a xs, x = .ref a ∧ SqL K H1 a xs ∧ ∀ p, H1 p = none → Q (.ref p) (upd H1 p (.lst xs.reverse))) ∨ (∃ a xs, x = .ref a ∧ SqT K H1 a xs ∧ ∀ p, H1 p = none → Q (.ref p) (upd H1 p (.tup xs.reverse)))
theorem pe_revU {e : Expr} {te : TE} {k : Nat} {p1 p2 p3 pos : Pos} (he : PE X e te) : PE X (.Subscript e (.Slice none none (some (.UnaryOp .USub (.Constant (.int 1) k p1) p2)) p3) pos) (tRevU X.K te) := by
  refine ⟨fun pins s σ H Q I h => ?_⟩
  refine Subscript_ (thn (he.run pins s σ H _ I h) fun v s1 ⟨x, H1, I1, r1, q1⟩ => ?_)
  have hst : PO X (some (.UnaryOp .USub (.Constant (.int 1) k p1) p2)) (tPart (tUn (rU fun i => .int (-i)) (tC (.int 1)))) := po_some (pe_un un_neg pe_int)
  refine wpAny_Slice ?_
  rw [evalPart_none]
  refine wpAny_pure ?_
  refine wpAny_pure ?_
  refine thn (hst.run pins s1 σ H1 (fun o H4 => o = some (-1) ∧ H4 = H1) I1 ⟨1, rfl, -1, rfl, rfl, rfl⟩) fun vs s4 ⟨o, H4, I4, ps, eo, e4⟩ => ?_
  subst eo e4
  have I5 : Inv X pins σ H4 { s4 with heap := s4.heap.push { cls := .type "slice", data := .fields #[.none, .none, vs] } } := I4.kept (t' := s4.toks) fun b ob q => Heap.get?_push_of_some _ q
  rcases q1 with ⟨a, xs, ex, hx, q⟩ | ⟨a, xs, ex, hx, q⟩
  · subst ex
    cases r1
    obtain ⟨its, r, ht, hz⟩ := I5.list hx
    have hlen := r.length
    show wpAny (model X.prog X.w) X.A (subscriptTail e (.Slice none none (some (.UnaryOp .USub (.Constant (.int 1) k p1) p2)) p3) (.ref a) (.ref s4.heap.objs.size)) (EP X pins σ Q) X.xe { s4 with heap := s4.heap.push { cls := .type "slice", data := .fields #[.none, .none, vs] } }
    refine tail_any (ops := [.ref a, .ref s4.heap.objs.size]) ht.isList.typeIs (PySem.slot_list_getitem.lookup) ?_ (by with_unfolding_all rfl)
    refine wpAny_getItem_list_slice ht.isList (Heap.IsSliceOf.new _ .none .none vs) .none .none ps (by decide) ?_ (by rw [List.size_toArray]; omega)
    rw [PySem.W.krv_pick]
    refine ⟨.ref _, _, I5.laid (t' := s4.toks) (o := .lst xs.reverse) (fun b ob q => Heap.get?_push_of_some _ q) (Nat.le_refl _) ?_, rfl, q _ (I5.hok.fresh (Nat.le_refl _))⟩
    exact ⟨by rw [List.length_reverse]; exact hz, _, 0, r.reverse, Heap.get?_push_size _ rfl⟩
  · subst ex
    cases r1
    obtain ⟨its, r, ht, hz⟩ := I5.tuple hx
    have hlen := r.length
    show wpAny (model X.prog X.w) X.A (subscriptTail e (.Slice none none (some (.UnaryOp .USub (.Constant (.int 1) k p1) p2)) p3) (.ref a) (.ref s4.heap.objs.size)) (EP X pins σ Q) X.xe { s4 with heap := s4.heap.push { cls := .type "slice", data := .fields #[.none, .none, vs] } }
    refine tail_any (ops := [.ref a, .ref s4.heap.objs.size]) (show IsTup _ a its.toArray from ht).typeIs (PyProof.Rows.slot_tuple_getitem.lookup) ?_ (by with_unfolding_all rfl)
    refine HT.getItem_tuple_back (show IsTup _ a its.toArray from ht) (Heap.IsSliceOf.new _ .none .none vs) ps ?_ (by rw [List.size_toArray]; omega)
    refine ⟨.ref _, _, I5.laid (t' := s4.toks) (o := .tup xs.reverse) (fun b ob q => Heap.get?_push_of_some _ q) (Nat.le_refl _) ?_, rfl, q _ (I5.hok.fresh (Nat.le_refl _))⟩
    exact ⟨by rw [List.length_reverse]; exact hz, its.reverse, r.reverse, _, Heap.get?_push_size _ rfl, rfl, _, rfl⟩
theorem list_extend_list_tupU (l : Addr) (items : Array Value) (n : Nat) (b : Addr) (items2 : Array Value) (n2 : Nat) (dct : Option Addr) (sl : Array (Option Value)) (hs0 : ¬(!items.isEmpty && Builtin.List.listTooLong (items.size + items2.size)) = true) (hs1 : items.size ≤ sizeLine) (hs2 : items.size + items2.size ≤ sizeLine + 1) :
    Meets (Builtin.«list.extend» ⟨[.ref l, .ref b], []⟩) (fun _ R s => s.heap.get? l = some { cls := .type "list", dict := none, data := .seq items n, slots := #[] } ∧ s.heap.get? b = some { cls := .type "tuple", dict := dct, data := .seq items2 n2, slots := sl } ∧ R (.ok (.ret Value.none)) { s with heap := s.heap.update l (Obj.mapSeq fun x => x ++ items2), toks := s.toks }) :=
  .of_wp fun prog w A R s h => by
    obtain ⟨hp, g, d, tk, os⟩ := s; obtain ⟨hl, hb, h⟩ := h; have f1 := AutoSeq1.idx_int; have f2 := AutoSeq1.sub_tuple_tuple; have f3 := AutoSeq1.sub_list_list; have f4 := AutoSeq1.sub_tuple_list; have f5 := AutoSeq1.sub_list_tuple;
    have hz' : (items ++ items2).size ≤ sizeLine + 1 := by rw [Array.size_append]; exact hs2
    wp_walk using (PySem.wpAny_updateSeq hl rfl (hz := hs1) (_hz' := hz')), wpAny_loadPart' hl, wpAny_loadPart' hb; exact ⟨_, rfl, h⟩
/-- a list or a tuple at a list's end -/
def rExtU (K : PySem.W.Frag) : V → List V → Hp → VK → Prop := fun x vs H Q => ∃ l b xs zs, x = .ref l ∧ vs = [.ref b] ∧ H l = some (.lst xs) ∧ (H b = some (.lst zs) ∨ SqT K H b zs) ∧ xs.length + zs.length ≤ sizeLine ∧ Q .non (upd H l (.lst (xs ++ zs)))
theorem mt_extU : MtM X "list.extend" (rExtU X.K) := by
  intro pins s σ H x vs v us Q I rx rv h
  obtain ⟨l, b, xs, zs, rfl, rfl, hH, hB, hz, q⟩ := h
  cases rx
  obtain ⟨u, rfl, ru⟩ := rv.one
  cases ru
  obtain ⟨z, its, n, r, hl, e⟩ := I.lstM hH
  rcases hB with hB | hB
  · obtain ⟨z2, its2, n2, r2, hl2, e2⟩ := I.lstM hB
    have hsz : its.toArray.size + its2.toArray.size ≤ sizeLine := by rw [List.size_toArray, List.size_toArray]; omega
    have hlong : ¬ (!its.toArray.isEmpty && Builtin.List.listTooLong (its.toArray.size + its2.toArray.size)) = true := by
      rw [notLongL hsz, Bool.and_false]
      exact Bool.false_ne_true
    refine call_meets F.slot_list_extend ⟨_, e, rfl⟩ F.entry_list_extend (F.args_list_extend_2 _ _)
      (AutoSeq1.list_extend_list_list_0 l its.toArray n b its2.toArray n2 hlong (by rw [List.size_toArray]; omega) (by omega)) ⟨e, e2, ?_⟩
    refine ⟨.non, _, I.lset (its' := its ++ its2) hH e (by simp) (r.append r2) ?_, rfl, q⟩
    rw [List.length_append]
    omega
  · obtain ⟨its2, r2, p2, z2⟩ := I.tuple hB
    obtain ⟨⟨c, dct, dt, sl⟩, e2, hc, n2, hd⟩ := p2
    replace hc : c = .type "tuple" := hc
    replace hd : dt = .seq its2.toArray n2 := hd
    subst hc hd
    have hl2 := r2.length
    have hsz : its.toArray.size + its2.toArray.size ≤ sizeLine := by rw [List.size_toArray, List.size_toArray]; omega
    have hlong : ¬ (!its.toArray.isEmpty && Builtin.List.listTooLong (its.toArray.size + its2.toArray.size)) = true := by
      rw [notLongL hsz, Bool.and_false]
      exact Bool.false_ne_true
    refine call_meets F.slot_list_extend ⟨_, e, rfl⟩ F.entry_list_extend (F.args_list_extend_2 _ _)
      (list_extend_list_tupU l its.toArray n b its2.toArray n2 dct sl hlong (by rw [List.size_toArray]; omega) (by omega)) ⟨e, e2, ?_⟩
    refine ⟨.non, _, I.lset (its' := its ++ its2) hH e (by simp) (r.append r2) ?_, rfl, q⟩
    rw [List.length_append]
    omega
end
end L2

/-! enumerate, x[::-1], x.extend(tuple), as meanings. -/
namespace DL
open PySem PySem.Spec PyProof.Rows L2
open Evl (Ex)
section
variable {K : PySem.W.Frag} {σ σ1 : L2.St} {env env1 env2 : Nv} {V H V1 H1 V2 H2 : Hp} {v : L2.V} {te ta tb : TE}
/-! x[::-1] -/
def gRev : D → Option Res
  | .list ds => some (.new (.list ds.reverse))
  | .tuple ds => some (.val (.tuple ds.reverse))
  | _ => none
def iRev (f : EvF) : EvF := fun env => (opd f env).bind fun p => (look p.2 p.1).bind fun d => (gRev d).bind fun z => some (z, p.2)
theorem sd_rev {f : EvF} (ha : Sd K te f) : Sd K (tRevU K te) (iRev f) := by
  intro env res env' e σ V H ok Q q
  simp only [iRev, Option.bind_eq_some_iff] at e
  obtain ⟨⟨ra, e1⟩, k1, d, k4, z, k5, k6⟩ := e
  cases k6
  refine opd_snd ha k1 ok fun x V3 H3 a c1 => ?_
  have op := c1.look a.ok k4
  have go : ∀ v V' H', Al V3 H3 V' H' → RR K H3 V' H' v res → Q v H' := fun v V' H' b hr => q v V' H' (a.trans (b.adv a.ok)) (hr.rok a b)
  have k5' : gRev d = some res := k5
  unfold gRev at k5'
  split at k5'
  · cases k5'
    obtain ⟨l, xs, rfl, g1, g2⟩ := op.list a.ok.sub
    exact .inl ⟨l, xs, rfl, g1, fun p hp => go _ _ _ (Al.hid a.ok.sub hp) ⟨p, rfl, hp, Evl.fresh_back a.ok.sub hp, _, upd_same, g2.rev⟩⟩
  · cases k5'
    obtain ⟨l, xs, rfl, g1, g2⟩ := op.tuple
    refine .inr ⟨l, xs, rfl, Evl.ex_t a.ok.sub g1, fun p hp => ?_⟩
    have b : Al V3 H3 (upd V3 p (.tup xs.reverse)) (upd H3 p (.tup xs.reverse)) := Al.new a.ok.sub hp
    exact go _ _ _ b (.tuple (Evl.st_of upd_same) (RA.mono b.ex _ _ g2.rev))
  · cases k5'
/-! x.extend(e), e a new list or a tuple -/
def iExU (i : Nat) (f : EvF) : StF := fun env => match env[i]? with
  | some (.own _ (.list _)) => (f env).bind fun p => match p.1 with
    | .new (.list es) => match p.2[i]? with
      | some (.own q (.list ds)) => if ds.length + es.length ≤ 100000 then some (.next (p.2.set i (.own q (.list (ds ++ es))))) else none
      | _ => none
    | .val (.tuple es) => match p.2[i]? with
      | some (.own q (.list ds)) => if ds.length + es.length ≤ 100000 then some (.next (p.2.set i (.own q (.list (ds ++ es))))) else none
      | _ => none
    | _ => none
  | _ => none
theorem sds_exU {i : Nat} {f : EvF} (ha : Sd K te f) : SdS K (tDrop (tBM K "list" (rExtU K) (tVar i) (tCons te tNil))) (iExU i f) := by
  intro env fl e σ V H ok E q
  unfold iExU at e
  split at e
  · rename_i p0 d0 he0
    simp only [Option.bind_eq_some_iff] at e
    obtain ⟨⟨r, e1⟩, h1, h2⟩ := e
    split at h2
    · rename_i es hr
      have hr' : r = .new (.list es) := hr
      subst hr'
      split at h2
      · rename_i p ds he
        split at h2
        · rename_i hz
          cases h2
          obtain ⟨l0, g1, g2, g3⟩ := ok.ownC he0
          refine ⟨_, g1, ?_, ?_⟩
          · obtain ⟨xs, hx, _⟩ := g3
            exact .inl ⟨rfl, xs, Evl.sq_of hx⟩
          · refine ha _ _ _ h1 σ V H ok _ fun v V1 H1 a k => ?_
            obtain ⟨l, y1, y2, xs, y3, y4⟩ := a.ok.ownC he
            rw [g1] at y1
            cases y1
            obtain ⟨b, rfl, w1, w2, w3, zs, w4, w5⟩ := k
            exact ⟨_, b, xs, zs, rfl, rfl, y3, .inl w4, Evl.sz_of (by rw [y4.len, w5.len]; exact hz), q σ V1 _ (adv_upd a he g1 ⟨xs ++ zs, upd_same, y4.append w5⟩)⟩
        · cases h2
      · cases h2
    · rename_i es hr
      have hr' : r = .val (.tuple es) := hr
      subst hr'
      split at h2
      · rename_i p ds he
        split at h2
        · rename_i hz
          cases h2
          obtain ⟨l0, g1, g2, g3⟩ := ok.ownC he0
          refine ⟨_, g1, ?_, ?_⟩
          · obtain ⟨xs, hx, _⟩ := g3
            exact .inl ⟨rfl, xs, Evl.sq_of hx⟩
          · refine ha _ _ _ h1 σ V H ok _ fun v V1 H1 a k => ?_
            obtain ⟨l, y1, y2, xs, y3, y4⟩ := a.ok.ownC he
            rw [g1] at y1
            cases y1
            have k' : R K V1 v (.tuple es) := k
            cases k' with
            | @tuple b zs _ w4 w5 => exact ⟨_, b, xs, zs, rfl, rfl, y3, .inr (Evl.ex_t a.ok.sub w4), Evl.sz_of (by rw [y4.len, w5.len]; exact hz), q σ V1 _ (adv_upd a he g1 ⟨xs ++ zs, upd_same, y4.append w5⟩)⟩
        · cases h2
      · cases h2
    · cases h2
  · cases e
/-! enumerate(t), a tuple -/
def enumD (ds : List D) : List D := ds.mapIdx fun (i : Nat) (d : D) => D.tuple [D.int (i : Int), d]
theorem enumD_get (ds : List D) (i : Nat) : (enumD ds)[i]? = (ds[i]?).map fun d => D.tuple [.int (i : Int), d] := by unfold enumD; rw [List.getElem?_mapIdx]
theorem enumD_len (ds : List D) : (enumD ds).length = ds.length := by unfold enumD; rw [List.length_mapIdx]
def iEnumI (fs : EvA) : ItF := fun env => (fs env).bind fun p => match p.1 with
  | [.val (.tuple ds)] => some (enumD ds, p.2)
  | _ => none
theorem pair_new {V1 H1 : Hp} {T : Addr} {x : L2.V} {d : D} {i : Nat} (s : Ex V1 H1) (hT : H1 T = none) (r : R K V1 x d) : Al V1 H1 (upd V1 T (.tup [.int (i : Nat), x])) (upd H1 T (.tup [.int (i : Nat), x])) ∧ R K (upd V1 T (.tup [.int (i : Nat), x])) (.ref T) (.tuple [.int (i : Int), d]) := by
  have b : Al V1 H1 (upd V1 T (.tup [.int (i : Nat), x])) (upd H1 T (.tup [.int (i : Nat), x])) := Al.new s hT
  exact ⟨b, .tuple (Evl.st_of upd_same) (.cons (.int _) (.cons (R.mono b.ex _ _ r) .nil))⟩
theorem mk_enumT {a : Addr} {xs : List L2.V} {ds : List D} (hs : SqT K V a xs) (r : RA K V xs ds) : Mk K (IteT K a) σ V H (enumD ds) := by
  intro g tb E Pv h0 hx hi hd
  refine for_it (n := xs.length) walk_enumT (fun i σ1 H1 => ∃ V1, Pv i σ1 V1 H1) ⟨V, h0⟩ (fun i σ1 H1 _ ⟨V1, p⟩ => ?_) (fun i x σ1 H1 H' hlt ⟨V1, p⟩ y => ?_) (fun σ1 H1 ⟨V1, p⟩ => ?_)
  · obtain ⟨p1, p2⟩ := hx i σ1 V1 H1 p
    exact Evl.ex_t (p1.trans p2) hs
  · obtain ⟨p1, p2⟩ := hx i σ1 V1 H1 p
    obtain ⟨T, z, u, rfl, hT, rfl, hz, hu⟩ := y
    cases hz
    obtain ⟨d, hdi, rd⟩ := r.getV hu
    obtain ⟨b, rb⟩ := pair_new (i := i) p2 hT (R.mono p1 _ _ rd)
    exact hi i _ σ1 V1 H1 (by rw [enumD_get, hdi]; rfl) p _ _ _ b rb
  · rw [r.len, ← enumD_len] at p
    exact hd σ1 V1 H1 p
theorem mkc_enumT {a : Addr} {xs : List L2.V} {ds : List D} (hs : SqT K V a xs) (r : RA K V xs ds) : MkC K (IteT K a) σ V H (enumD ds) := by
  intro g tt te vs Dl Pv Qd h0 hx hi hd
  refine lc_it (n := xs.length) walk_enumT (fun i H1 => ∃ V1, Pv i V1 H1) ⟨V, h0⟩ (fun i H1 _ ⟨V1, p⟩ => ?_) (fun i x H1 H' hlt ⟨V1, p⟩ y => ?_) (fun H1 ⟨V1, p⟩ => ?_)
  · obtain ⟨p1, p2⟩ := hx i V1 H1 p
    exact Evl.ex_t (p1.trans p2) hs
  · obtain ⟨p1, p2⟩ := hx i V1 H1 p
    obtain ⟨T, z, u, rfl, hT, rfl, hz, hu⟩ := y
    cases hz
    obtain ⟨d, hdi, rd⟩ := r.getV hu
    obtain ⟨b, rb⟩ := pair_new (i := i) p2 hT (R.mono p1 _ _ rd)
    exact hi i _ V1 H1 (by rw [enumD_get, hdi]; rfl) p _ _ _ b rb
  · rw [r.len, ← enumD_len] at p
    exact hd V1 H1 p
theorem sdi_enum {t : TA} {fs : EvA} (ha : SdA K t fs) : SdI K (iEnumT K t) (iEnumI fs) := by
  intro env ds env' e σ V H ok Rr q
  simp only [iEnumI, Option.bind_eq_some_iff] at e
  obtain ⟨⟨r, e1⟩, h1, h3⟩ := e
  refine ha _ _ _ h1 σ V H ok _ fun vs V' H' a k => ?_
  split at h3
  · rename_i es hn
    have hn' : r = [.val (.tuple es)] := hn
    subst hn'
    cases h3
    cases k with
    | @cons v0 _ _ _ k1 k2 =>
      cases k2
      have k1' : R K V' v0 (.tuple es) := k1
      cases k1' with
      | @tuple b zs _ w4 w5 => exact ⟨b, zs, rfl, Evl.ex_t a.ok.sub w4, q _ V' H' a ⟨mk_enumT w4 w5, mkc_enumT w4 w5⟩⟩
  · cases h3
end
section
variable {X : Cx} {k : Nat} {a b c e l iter : Expr} {es ifs : List Expr} {pos p p2 : Pos} {fa fb f : EvF} {fs : EvA} {x : Str}
theorem pdRev {k : Nat} {p1 p2 p3 pos : Pos} (he : PD X e f) : PD X (.Subscript e (.Slice none none (some (.UnaryOp .USub (.Constant (.int 1) k p1) p2)) p3) pos) (iRev f) := let ⟨_, h1, k1⟩ := he; ⟨_, pe_revU h1, sd_rev k1⟩
theorem idEnum {tpos : Pos} {elts : List Expr} {kk : Nat} (hg : Gl X "enumerate") (hm : X.mg "enumerate" = none) (ha : AD X [a] fs) (hs : starEach [a] X.env = [(false, eval a X.env)] := by rfl) : ID X (.Tuple elts kk tpos) (.Call (.Name "enumerate" p) [a] [] pos) (iEnumI fs) := let ⟨_, h1, k1⟩ := ha; ⟨_, pi_enumT hg hm h1 hs, sdi_enum k1⟩
theorem stExU (i : Nat) (he : PD X e f) {apos p : Pos} (hN : X.N[i]? = some x := by rfl) (hv : Vis X.env.scope x := by first | exact Or.inl rfl | exact Or.inr (Or.inl rfl) | exact Or.inr (Or.inr rfl)) (hd : (x == ("__debug__" : Str)) = false := by decide) (hcd : (x == ("__classdict__" : Str)) = false := by decide)
    (h1 : attributeBase (.Name x p) "extend" X.env (eval (.Name x p) X.env) = eval (.Name x p) X.env := by rfl) (h2 : (apos.endLine == pos.line) = true := by rfl) (h3 : starEach [e] X.env = (false, eval e X.env) :: starEach [] X.env := by rfl) (h4 : (backTo pos (starEach [] X.env)).any (·.1) = false := by rfl)
    (h5 : ((backTo pos (starEach [e] X.env)).all (fun x => !x.1) && (backToKw pos (keywordEach [] X.env)).all (fun x => x.1.isSome) && decide ([e].length + ([] : List Keyword).length + (if ([] : List Keyword).isEmpty then 0 else 1) < 30)) = true := by rfl) (hs : swapsWith (.Call (.Attribute (.Name x p) "extend" apos) [e] [] pos) none p2.line X.env = pure false := by rfl) : StD X (.Expr (.Call (.Attribute (.Name x p) "extend" apos) [e] [] pos) p2) (iExU i f) :=
  let ⟨_, g1, k1⟩ := he
  ⟨_, ps_expr (pe_bm PySem.F.plainAttrs_list PySem.F.slot_list_extend PySem.F.type_list_extend mt_extU (pe_var hN hv hd hcd) (pa_cons g1 pa_nil h3) h1 h5 h2 h3 h4) hs, sds_exU k1⟩
end
end DL

/-! text * int; x[i] = e. -/
namespace L2
open PySem PySem.Spec PyProof.Rows
def repS (z : Str) (k : Nat) : Str := ⟨(List.replicate k z.cps).foldl (· ++ ·) #[]⟩
theorem rep_size (a : Array Nat) : ∀ (k : Nat) (b : Array Nat), ((List.replicate k a).foldl (· ++ ·) b).size = b.size + k * a.size
  | 0, b => by simp
  | k + 1, b => by
    rw [List.replicate_succ, List.foldl_cons, rep_size a k (b ++ a), Array.size_append, Nat.succ_mul]
    omega
section
variable {X : Cx}
theorem op_repS : OpR X (binaryOp .Mult) (fun x y H Q => ∃ (z : Str) (k : Int), x = .str z ∧ y = .int k ∧ 2 ≤ k ∧ k ≤ 1000 ∧ 1 ≤ z.length ∧ z.length ≤ 1000 ∧ Q (.str (repS z k.toNat)) H) := by
  intro pins s σ H x y v u Q I rx ry h
  obtain ⟨z, k, rfl, rfl, h0, h1, h2, h3, q⟩ := h
  obtain ⟨t, rfl⟩ := rx
  obtain ⟨t', rfl⟩ := ry
  have hc : ¬ k < 1 := by omega
  have hn : (k == 1 || z.length == 0) = false := by
    rw [Bool.or_eq_false_iff]
    exact ⟨beq_eq_false_iff_ne.mpr (by omega), beq_eq_false_iff_ne.mpr (by omega)⟩
  have sl : (1000000 : Nat) ≤ sizeLine := by decide
  have ml : z.length * k.toNat ≤ 1000 * 1000 := Nat.mul_le_mul h3 (by omega)
  refine PySem.P.mul_str (by
      have h2 : ¬ k ≥ 2 ^ 63 := by omega
      have h4 : ¬ k < -(2 ^ 63 : Int) := by omega
      rw [decide_eq_false h4, decide_eq_false h2]; rfl) (fun _ _ z => ?_) (fun _ _ => ?_) ?_
  · have e : (2 ^ 63 - 1 : Int) / 1000 ≤ (2 ^ 63 - 1) / k := by
      have hk : (2 ^ 63 - 1 : Int) / 1000 * k ≤ 2 ^ 63 - 1 := by
        have : (2 ^ 63 - 1 : Int) / 1000 * k ≤ (2 ^ 63 - 1 : Int) / 1000 * 1000 := Int.mul_le_mul_of_nonneg_left h1 (by decide)
        have e2 : (2 ^ 63 - 1 : Int) / 1000 * 1000 ≤ 2 ^ 63 - 1 := by decide
        omega
      exact (Int.le_ediv_iff_mul_le (by omega)).mpr hk
    have e3 : (1000 : Int) ≤ (2 ^ 63 - 1) / 1000 := by decide
    omega
  · show decide (z.length * k.toNat > sizeLine) = false
    exact decide_eq_false (by omega)
  · rw [if_neg hc, if_neg (by rw [hn]; exact Bool.false_ne_true)]
    exact ⟨by
      show (repS z k.toNat).cps.size ≤ sizeLine
      show ((List.replicate k.toNat z.cps).foldl (· ++ ·) #[]).size ≤ sizeLine
      rw [rep_size]
      have : k.toNat * z.cps.size ≤ 1000 * 1000 := Nat.mul_le_mul (by omega) h3
      simp only [List.size_toArray, List.length_nil]
      omega, .str (repS z k.toNat), H, I.tok _, ⟨_, rfl⟩, q⟩
end
end L2
namespace DL
open PySem PySem.Spec PyProof.Rows L2
open Evl (Ex)
section
variable {K : PySem.W.Frag} {σ σ1 : L2.St} {env env1 env2 : Nv} {V H V1 H1 V2 H2 : Hp} {v : L2.V} {te ta tb ti : TE}
def gMulS : D → D → Option Res := fun d e => match d, e with
  | .str z, .int k => if 2 ≤ k ∧ k ≤ 1000 ∧ 1 ≤ z.length ∧ z.length ≤ 1000 then some (.val (.str (repS z k.toNat))) else none
  | _, _ => none
theorem bin_mulS : BinOk K (fun x y H Q => ∃ (z : Str) (k : Int), x = .str z ∧ y = .int k ∧ 2 ≤ k ∧ k ≤ 1000 ∧ 1 ≤ z.length ∧ z.length ≤ 1000 ∧ Q (.str (repS z k.toNat)) H) gMulS := by
  intro V H x y d e res sub hx hy hg Q q
  unfold gMulS at hg
  split at hg
  · split at hg
    · rename_i hz
      cases hg
      cases hx.str
      cases hy.int
      exact ⟨_, _, rfl, rfl, hz.1, hz.2.1, hz.2.2.1, hz.2.2.2, q _ V H (Al.refl sub) (.str _)⟩
    · cases hg
  · cases hg
/-! x[i] = e -/
def iStL (i : Nat) (g f : EvF) : StF := fun env => (opd f env).bind fun p => (vis p.1).bind fun d => match p.2[i]? with
  | some (.own _ (.list _)) => (opd g p.2).bind fun r => (isI r.1).bind fun k => match r.2[i]? with
    | some (.own q (.list ds)) => (L2.ixN ds.length k).bind fun j => some (.next (r.2.set i (.own q (.list (ds.set j d)))))
    | _ => none
  | _ => none
theorem sds_stL {i : Nat} {g f : EvF} (ha : Sd K te f) (hg : Sd K ti g) : SdS K (tAsg te (L2.gSub (tVar i) ti rSetL)) (iStL i g f) := by
  intro env fl e σ V H ok E q
  simp only [iStL, Option.bind_eq_some_iff] at e
  obtain ⟨⟨r, e1⟩, h1, d, h2, h3⟩ := e
  split at h3
  · rename_i q0 ds0 he0
    simp only [Option.bind_eq_some_iff] at h3
    obtain ⟨⟨r2, e2⟩, h4, k, h5, h6⟩ := h3
    split at h6
    · rename_i q1 ds he
      simp only [Option.bind_eq_some_iff] at h6
      obtain ⟨j, h7, h8⟩ := h6
      cases h8
      refine opd_snd ha h1 ok fun v V1 H1 a1 k1 => ?_
      have r0 : R K V1 v d := by
        cases r with
        | val d' => cases h2; exact k1
        | new d' => exact k1.elim
        | own j => cases h2
      obtain ⟨l0, g1, g2, g3⟩ := a1.ok.ownC he0
      refine ⟨_, g1, ?_⟩
      refine opd_snd hg h4 a1.ok fun w V2 H2 a2 k2 => ?_
      have a := a1.trans a2
      have hr : r2 = .val (.int k) := isI_val h5
      subst hr
      have k2' : R K V2 w (.int k) := k2
      cases k2'
      obtain ⟨l, y1, y2, xs, y3, y4⟩ := a.ok.ownC he
      rw [g1] at y1
      cases y1
      refine ⟨_, xs, k, j, rfl, rfl, y3, by rw [y4.len]; exact h7, ?_⟩
      exact q σ V2 _ (adv_upd a he g1 ⟨xs.set j v, upd_same, RA.set (R.mono a2.ex _ _ r0) j y4⟩)
    · cases h6
  · cases h3
end
section
variable {X : Cx} {k : Nat} {a b c e l i iter : Expr} {es ifs : List Expr} {pos p p2 : Pos} {fa fb f g : EvF} {fs : EvA} {x : Str}
theorem pdMulS (ha : PD X a fa) (hb : PD X b fb) : PD X (.BinOp a .Mult b pos) (iBin gMulS fa fb) := pdBin op_repS bin_mulS ha hb
theorem stStL (n : Nat) (he : PD X e f) (hi : PD X i g) (hN : X.N[n]? = some x := by rfl) (hv : Vis X.env.scope x := by first | exact Or.inl rfl | exact Or.inr (Or.inl rfl) | exact Or.inr (Or.inr rfl)) (hd : (x == ("__debug__" : Str)) = false := by decide) (hcd : (x == ("__classdict__" : Str)) = false := by decide)
    (hs : swapsWithSole [.Subscript (.Name x p) i p2] e pos.line X.env = pure false := by rfl) (hw : swappedStores [.Subscript (.Name x p) i p2] e X.env = pure none := by rfl) (h1 : (assignEach [.Subscript (.Name x p) i p2] X.env).map (·.2) = [assign (.Subscript (.Name x p) i p2) X.env] := by rfl)
    (ha : ∀ v, assign (.Subscript (.Name x p) i p2) X.env v = (do
      let ov ← holding [v] (eval (.Name x p) X.env)
      let iv ← holding [v, ov] (eval i X.env)
      standAt p2
      holding [v, ov, iv] (setItem ov iv v)
      release [v, ov, iv] []) := by intro _; rfl) : StD X (.Assign [.Subscript (.Name x p) i p2] e pos) (iStL n g f) :=
  let ⟨_, g1, k1⟩ := he; let ⟨_, g2, k2⟩ := hi
  ⟨_, ps_asg g1 (pg_sub (pe_var hN hv hd hcd) g2 set_list ha) hs hw h1, sds_stL k1 k2⟩
end
end DL

/-! Dicts whose keys are ints or texts. -/
namespace DL
open PySem PySem.Spec PyProof.Rows L2
open Evl (Ex)
def keyD : D → Option Key
  | .int n => some (.inl n)
  | .str s => some (.inr s)
  | _ => none
def findD : List Key → List D → Key → Option D
  | k :: ks, d :: ds, q => if k = q then some d else findD ks ds q
  | _, _, _ => none
def putD : List Key → List D → Key → D → List Key × List D
  | k :: ks, d :: ds, q, x => if k = q then (k :: ks, x :: ds) else let r := putD ks ds q x; (k :: r.1, d :: r.2)
  | _, _, q, x => ([q], [x])
section
variable {K : PySem.W.Frag} {σ σ1 : L2.St} {env env1 env2 : Nv} {V H V1 H1 V2 H2 : Hp} {v : L2.V} {te ta tb ti td ty tx tv : TE}
theorem key_of {y : L2.V} {d : D} {k : Key} (h : R K H y d) (e : keyD d = some k) : y = kV k := by
  cases d with
  | int n => cases h; cases e; rfl
  | str s => cases h; cases e; rfl
  | _ => cases e
theorem dk_of {x : L2.V} {ks : List Key} {ds : List D} (h : OpOk K V H x (.dictK ks ds)) (sub : Ex V H) : ∃ a kvs, x = .ref a ∧ H a = some (.dK kvs) ∧ kvs.map (·.1) = ks ∧ RA K V (kvs.map (·.2)) ds := by
  rcases h with h | ⟨l, rfl, hv, kvs, h1, h2, h3⟩
  · cases h with
    | @dictK a kvs _ _ h1 h2 h3 => exact ⟨a, kvs, rfl, sub _ _ h1, h2, h3⟩
  · exact ⟨l, kvs, rfl, h1, h2, h3⟩
theorem find_val (q : Key) : ∀ (kvs : List (Key × L2.V)) (ds : List D), RA K V (kvs.map (·.2)) ds → (∀ d, findD (kvs.map (·.1)) ds q = some d → ∃ v, valV kvs q = some v ∧ R K V v d) ∧ (findD (kvs.map (·.1)) ds q = none → valV kvs q = none)
  | [], ds, _ => by
    constructor
    · intro d h
      cases ds <;> cases h
    · intro _; rfl
  | kv :: kvs, ds, h => by
    cases h with
    | @cons v d vs ds a t =>
      obtain ⟨h1, h2⟩ := find_val q kvs _ t
      by_cases e : kv.1 = q
      · constructor
        · intro x hx
          simp only [List.map_cons, findD, if_pos e] at hx
          cases hx
          exact ⟨kv.2, valV_pos e, a⟩
        · intro hx
          simp only [List.map_cons, findD, if_pos e] at hx
          cases hx
      · constructor
        · intro x hx
          simp only [List.map_cons, findD, if_neg e] at hx
          obtain ⟨v, g1, g2⟩ := h1 x hx
          exact ⟨v, by rw [valV_neg e]; exact g1, g2⟩
        · intro hx
          simp only [List.map_cons, findD, if_neg e] at hx
          rw [valV_neg e]
          exact h2 hx
/-! d.get(k, x) -/
def iDGet2 (f g h : EvF) : EvF := fun env => (opd f env).bind fun p => (look p.2 p.1).bind fun d0 => match d0 with
  | .dictK _ _ => (opd g p.2).bind fun q => (opd h q.2).bind fun r => (look r.2 p.1).bind fun d => match d with
    | .dictK ks ds => (look r.2 q.1).bind fun y => (keyD y).bind fun k => (vis r.1).bind fun z => some (.val ((findD ks ds k).getD z), r.2)
    | _ => none
  | _ => none
theorem sd_dget2 {f g h : EvF} (ha : Sd K td f) (hb : Sd K ty g) (hc : Sd K tx h) : Sd K (tDGet2 td ty tx) (iDGet2 f g h) := by
  intro env res env' e σ V H ok Q q
  simp only [iDGet2, Option.bind_eq_some_iff] at e
  obtain ⟨⟨r1, e1⟩, k1, d0, k2, e⟩ := e
  cases d0 with
  | dictK ks0 ds0 =>
    simp only [Option.bind_eq_some_iff] at e
    obtain ⟨⟨r2, e2⟩, k3, ⟨r3, e3⟩, k4, d, k5, e⟩ := e
    cases d with
    | dictK ks ds =>
      simp only [Option.bind_eq_some_iff] at e
      obtain ⟨y, k6, k, k7, z, k8, k9⟩ := e
      cases k9
      refine opd_snd ha k1 ok fun x V1 H1 a1 c1 => ?_
      obtain ⟨a, kvs, rfl, h1, _, _⟩ := dk_of (c1.look a1.ok k2) a1.ok.sub
      refine ⟨a, rfl, .inl ⟨kvs, .inl h1⟩, ?_⟩
      refine opd_snd hb k3 a1.ok fun w V2 H2 a2 c2 => ?_
      refine opd_snd hc k4 a2.ok fun u V3 H3 a3 c3 => ?_
      have a4 := (a1.trans a2).trans a3
      obtain ⟨a', kvs', e', h2, h3, h4⟩ := dk_of (((c1.mono a2.ex).mono a3.ex).look a4.ok k5) a4.ok.sub
      cases e'
      have hy := ((c2.mono a3.ex).look a4.ok k6).seen a4.ok.sub
      have hk := key_of hy k7
      subst hk
      have rz : R K V3 u z := by
        cases r3 with
        | val d' => cases k8; exact c3
        | new d' => exact c3.elim
        | own j => cases k8
      refine ⟨valV kvs' k, DGet.k h2, ?_⟩
      subst h3
      obtain ⟨g1, g2⟩ := find_val k kvs' ds h4
      cases hf : findD (kvs'.map (·.1)) ds k with
      | none =>
        rw [g2 hf]
        exact q _ V3 H3 a4 (show R K V3 u ((findD (kvs'.map (·.1)) ds k).getD z) by rw [hf]; exact rz)
      | some d =>
        obtain ⟨v, v1, v2⟩ := g1 d hf
        rw [v1]
        exact q _ V3 H3 a4 (show R K V3 v ((findD (kvs'.map (·.1)) ds k).getD z) by rw [hf]; exact v2)
    | _ => cases e
  | _ => cases e
/-! d[k], it is there -/
def iDGet (f g : EvF) : EvF := fun env => (opd f env).bind fun p => (opd g p.2).bind fun q => (look q.2 p.1).bind fun d => match d with
  | .dictK ks ds => (look q.2 q.1).bind fun y => (keyD y).bind fun k => (findD ks ds k).bind fun x => some (.val x, q.2)
  | _ => none
theorem sd_dget {f g : EvF} (ha : Sd K td f) (hb : Sd K ty g) : Sd K (tDGet td ty) (iDGet f g) := by
  intro env res env' e σ V H ok Q q
  simp only [iDGet, Option.bind_eq_some_iff] at e
  obtain ⟨⟨r1, e1⟩, k1, ⟨r2, e2⟩, k3, d, k5, e⟩ := e
  cases d with
  | dictK ks ds =>
    simp only [Option.bind_eq_some_iff] at e
    obtain ⟨y, k6, k, k7, z, k8, k9⟩ := e
    cases k9
    refine opd_snd ha k1 ok fun x V1 H1 a1 c1 => ?_
    refine opd_snd hb k3 a1.ok fun w V2 H2 a2 c2 => ?_
    have a4 := a1.trans a2
    obtain ⟨a', kvs', rfl, h2, h3, h4⟩ := dk_of ((c1.mono a2.ex).look a4.ok k5) a4.ok.sub
    have hy := (c2.look a4.ok k6).seen a4.ok.sub
    have hk := key_of hy k7
    subst hk
    subst h3
    obtain ⟨g1, g2⟩ := find_val k kvs' ds h4
    obtain ⟨v, v1, v2⟩ := g1 _ k8
    refine ⟨a', v, rfl, ?_, q _ V2 H2 a4 v2⟩
    have := DGet.k (k := k) h2
    rw [v1] at this
    exact this
  | _ => cases e
/-! k in d -/
def iDIn (neg : Bool) (g f : EvF) : EvF := fun env => (opd g env).bind fun q => (opd f q.2).bind fun p => (look p.2 p.1).bind fun d => match d with
  | .dictK ks ds => (look p.2 q.1).bind fun y => (keyD y).bind fun k => some (.val (.bool (if neg then !(findD ks ds k).isSome else (findD ks ds k).isSome)), p.2)
  | _ => none
theorem sd_din {f g : EvF} (hb : Sd K ty g) (ha : Sd K td f) : Sd K (tDIn ty td) (iDIn false g f) ∧ Sd K (tDNotIn ty td) (iDIn true g f) := by
  have go : ∀ neg env res env', iDIn neg g f env = some (res, env') → ∀ (σ : L2.St) (V H : Hp), NvOk K V H σ env → ∀ Q : VK, (∀ (b : Bool) V' H', Adv K σ env σ env' V H V' H' → res = .val (.bool (if neg then !b else b)) → Q (.bl (if neg then !b else b)) H') →
      ty σ H fun y H1 => td σ H1 fun x H2 => ∃ a o, x = .ref a ∧ DGet H2 a y o ∧ Q (.bl (if neg then !o.isSome else o.isSome)) H2 := by
    intro neg env res env' e σ V H ok Q q
    simp only [iDIn, Option.bind_eq_some_iff] at e
    obtain ⟨⟨r2, e1⟩, k3, ⟨r1, e2⟩, k1, d, k5, e⟩ := e
    cases d with
    | dictK ks ds =>
      simp only [Option.bind_eq_some_iff] at e
      obtain ⟨y, k6, k, k7, k9⟩ := e
      cases k9
      refine opd_snd hb k3 ok fun w V1 H1 a1 c2 => ?_
      refine opd_snd ha k1 a1.ok fun x V2 H2 a2 c1 => ?_
      have a4 := a1.trans a2
      obtain ⟨a', kvs', rfl, h2, h3, h4⟩ := dk_of (c1.look a4.ok k5) a4.ok.sub
      have hy := ((c2.mono a2.ex).look a4.ok k6).seen a4.ok.sub
      have hk := key_of hy k7
      subst hk
      subst h3
      obtain ⟨g1, g2⟩ := find_val k kvs' ds h4
      have es : (valV kvs' k).isSome = (findD (kvs'.map (·.1)) ds k).isSome := by
        cases hf : findD (kvs'.map (·.1)) ds k with
        | none => rw [g2 hf]; rfl
        | some d =>
          obtain ⟨v, v1, _⟩ := g1 d hf
          rw [v1]
          rfl
      refine ⟨a', valV kvs' k, rfl, DGet.k h2, ?_⟩
      rw [es]
      exact q _ V2 H2 a4 rfl
    | _ => cases e
  constructor
  · intro env res env' e σ V H ok Q q
    exact go false env res env' e σ V H ok Q fun b V' H' a hr => q _ V' H' a (by rw [hr]; exact .bool _)
  · intro env res env' e σ V H ok Q q
    exact go true env res env' e σ V H ok Q fun b V' H' a hr => q _ V' H' a (by rw [hr]; exact .bool _)
/-! {} -/
def iDNew : EvF := fun env => some (.new (.dictK [] []), env)
theorem sd_dnew : Sd K tDNewK iDNew := by
  intro env res env' e σ V H ok Q q
  cases e
  intro p hp
  have b : Al V H V (upd H p (.dK [])) := Al.hid ok.sub hp
  exact q _ V _ ((Adv.refl ok).trans (b.adv ok)) ⟨p, rfl, .inl hp, Evl.fresh_back ok.sub hp, fun w => ok.notOwn hp w, [], upd_same, rfl, .nil⟩
/-! d[k] = e, d a container of its own -/
def iDPut (i : Nat) (g f : EvF) : StF := fun env => (opd f env).bind fun p => (vis p.1).bind fun x => match p.2[i]? with
  | some (.own _ (.dictK _ _)) => (opd g p.2).bind fun r => (look r.2 r.1).bind fun y => (keyD y).bind fun k => match r.2[i]? with
    | some (.own q (.dictK ks ds)) => if ds.length < 100000 ∧ ks.Nodup then some (.next (r.2.set i (.own q (.dictK (putD ks ds k x).1 (putD ks ds k x).2)))) else none
    | _ => none
  | _ => none
theorem put_len (q : Key) (x : D) : ∀ (ks : List Key) (ds : List D), ks.length = ds.length → (putD ks ds q x).1.length = (putD ks ds q x).2.length
  | [], [], _ => rfl
  | [], _ :: _, h => by cases h
  | _ :: _, [], h => by cases h
  | k :: ks, d :: ds, h => by
    unfold putD
    by_cases e : k = q
    · rw [if_pos e]; simpa using h
    · rw [if_neg e]
      have := put_len q x ks ds (by simpa using h)
      simpa using this
theorem put_val (q : Key) {v : L2.V} {x : D} (hv : R K V v x) : ∀ (kvs : List (Key × L2.V)) (ds : List D), (kvs.map (·.1)).Nodup → RA K V (kvs.map (·.2)) ds → (putK kvs q v).map (·.1) = (putD (kvs.map (·.1)) ds q x).1 ∧ RA K V ((putK kvs q v).map (·.2)) (putD (kvs.map (·.1)) ds q x).2
  | [], ds, _, h => by
    cases h
    exact ⟨rfl, .cons hv .nil⟩
  | kv :: kvs, ds, nd, h => by
    cases h with
    | @cons w vs d ds a t =>
      rw [List.map_cons, List.nodup_cons] at nd
      obtain ⟨i1, i2⟩ := put_val q hv kvs _ nd.2 t
      by_cases e : kv.1 = q
      · have pk : putK (kv :: kvs) q v = (kv.1, v) :: kvs := by
          unfold putK
          have any : ((kv :: kvs).any fun kv => decide (kv.1 = q)) = true := by simp [e]
          rw [if_pos any, List.map_cons, if_pos e]
          congr 1
          have : kvs.map (fun kv => if kv.1 = q then (kv.1, v) else kv) = kvs.map id := by
            apply List.map_congr_left
            intro z hz
            have : z.1 ≠ q := fun y => nd.1 (by rw [e, ← y]; exact List.mem_map.mpr ⟨z, hz, rfl⟩)
            rw [if_neg this]
            rfl
          rw [this, List.map_id]
        rw [pk]
        simp only [List.map_cons, putD, if_pos e]
        exact ⟨trivial, .cons hv t⟩
      · have pk : putK (kv :: kvs) q v = kv :: putK kvs q v := by
          unfold putK
          have any : ((kv :: kvs).any fun kv => decide (kv.1 = q)) = (kvs.any fun kv => decide (kv.1 = q)) := by simp [e]
          rw [any]
          by_cases h : (kvs.any fun kv => decide (kv.1 = q)) = true
          · rw [if_pos h, if_pos h, List.map_cons, if_neg e]
          · rw [if_neg h, if_neg h]
            rfl
        rw [pk]
        simp only [List.map_cons, putD, if_neg e]
        exact ⟨by rw [i1], .cons a i2⟩
theorem sds_dput {i : Nat} {g f : EvF} (hv : Sd K tv f) (hg : Sd K ty g) : SdS K (sDPut (tVar i) ty tv) (iDPut i g f) := by
  intro env fl e σ V H ok E q
  simp only [iDPut, Option.bind_eq_some_iff] at e
  obtain ⟨⟨r, e1⟩, h1, x, h2, h3⟩ := e
  split at h3
  · rename_i q0 ks0 ds0 he0
    simp only [Option.bind_eq_some_iff] at h3
    obtain ⟨⟨r2, e2⟩, h4, y, h5, k, h6, h7⟩ := h3
    split at h7
    · rename_i q1 ks ds he
      split at h7
      · rename_i hz
        cases h7
        refine opd_snd hv h1 ok fun v V1 H1 a1 k1 => ?_
        have r0 : R K V1 v x := by
          cases r with
          | val d' => cases h2; exact k1
          | new d' => exact k1.elim
          | own j => cases h2
        obtain ⟨l0, g1, g2, g3⟩ := a1.ok.ownC he0
        refine ⟨_, g1, ?_⟩
        refine opd_snd hg h4 a1.ok fun w V2 H2 a2 k2 => ?_
        have a := a1.trans a2
        have hy := (k2.look a.ok h5).seen a.ok.sub
        have hk := key_of hy h6
        subst hk
        obtain ⟨l, y1, y2, kvs, y3, y4, y5⟩ := a.ok.ownC he
        rw [g1] at y1
        cases y1
        subst y4
        obtain ⟨p1, p2⟩ := put_val k (R.mono a2.ex _ _ r0) kvs ds hz.2 y5
        have hl : kvs.length < sizeLine := Evl.sz_lt (by have := y5.len; rw [List.length_map] at this; rw [this]; exact hz.1)
        refine ⟨_, _, rfl, DPut.k y3 hl, ?_⟩
        exact q σ V2 _ (adv_upd a he g1 ⟨putK kvs k v, upd_same, p1, p2⟩)
      · cases h7
    · cases h7
  · cases h3
end
section
variable {X : Cx} {k : Nat} {o e i value : Expr} {pos pos' p apos cpos : Pos} {f g h : EvF} {x : Str}
theorem pdDGet2 {k : Nat} (hr : Room k X.A) (ha : PD X o f) (hb : PD X e g) (hc : PD X i h) (m : M2 X o "get" apos e i cpos := by exact ⟨by rfl, by rfl, by rfl, by rfl⟩) : PD X (.Call (.Attribute o "get" apos) [e, i] [] cpos) (iDGet2 f g h) :=
  let ⟨_, h1, k1⟩ := ha; let ⟨_, h2, k2⟩ := hb; let ⟨_, h3, k3⟩ := hc; ⟨_, pe_dget2 (hu_of hr) h1 h2 h3 m, sd_dget2 k1 k2 k3⟩
theorem pdDGet {k : Nat} (hr : Room k X.A) (ha : PD X o f) (hb : PD X i g) (hs : NoSl i := by intro _ _; rfl) : PD X (.Subscript o i pos) (iDGet f g) :=
  let ⟨_, h1, k1⟩ := ha; let ⟨_, h2, k2⟩ := hb; ⟨_, pe_dget (hu_of hr) h1 h2 hs, sd_dget k1 k2⟩
theorem pdDNew : PD X (.Dict [] [] pos) iDNew := ⟨_, pe_dnewK, sd_dnew⟩
theorem stDPut {k : Nat} (n : Nat) (hr : Room k X.A) (he : PD X value f) (hi : PD X i g) (hN : X.N[n]? = some x := by rfl) (hv : Vis X.env.scope x := by first | exact Or.inl rfl | exact Or.inr (Or.inl rfl) | exact Or.inr (Or.inr rfl)) (hd : (x == ("__debug__" : Str)) = false := by decide) (hcd : (x == ("__classdict__" : Str)) = false := by decide)
    (hs : swapsWith value (some (.Subscript (.Name x p) i pos')) pos.line X.env = pure false := by rfl) : StD X (.Assign [.Subscript (.Name x p) i pos'] value pos) (iDPut n g f) :=
  let ⟨_, g1, k1⟩ := he; let ⟨_, g2, k2⟩ := hi
  ⟨_, ps_dput (hu_of hr) (pe_var hN hv hd hcd) g2 g1 hs, sds_dput k1 k2⟩
end
end DL

/-! [(k, d[k]) for k in d]; x.reverse(). -/
namespace DL
open PySem PySem.Spec PyProof.Rows L2
open Evl (Ex)
def keyT : Key → D
  | .inl n => .int n
  | .inr s => .str s
def pairsD : List Key → List D → List D
  | k :: ks, d :: ds => .tuple [keyT k, d] :: pairsD ks ds
  | _, _ => []
theorem pairsD_get : ∀ (ks : List Key) (ds : List D) (i : Nat) (k : Key) (d : D), ks[i]? = some k → ds[i]? = some d → (pairsD ks ds)[i]? = some (.tuple [keyT k, d])
  | [], _, _, _, _, h, _ => by cases h
  | _ :: _, [], _, _, _, _, h => by cases h
  | k :: ks, d :: ds, 0, _, _, h1, h2 => by cases h1; cases h2; rfl
  | k :: ks, d :: ds, i + 1, _, _, h1, h2 => pairsD_get ks ds i _ _ h1 h2
theorem pairsD_len : ∀ (ks : List Key) (ds : List D), ks.length = ds.length → (pairsD ks ds).length = ks.length
  | [], [], _ => rfl
  | [], _ :: _, h => by cases h
  | _ :: _, [], h => by cases h
  | k :: ks, d :: ds, h => by
    show (pairsD ks ds).length + 1 = _
    rw [pairsD_len ks ds (by simpa using h)]
    rfl
theorem valV_at : ∀ (kvs : List (Key × L2.V)) (i : Nat) (k : Key) (w : L2.V), (kvs.map (·.1)).Nodup → kvs[i]? = some (k, w) → valV kvs k = some w
  | [], _, _, _, _, h => by cases h
  | kv :: kvs, 0, k, w, _, h => by cases h; exact valV_pos rfl
  | kv :: kvs, i + 1, k, w, nd, h => by
    rw [List.map_cons, List.nodup_cons] at nd
    have h' : kvs[i]? = some (k, w) := h
    have ne : ¬ kv.1 = k := fun e => nd.1 (by rw [e]; exact List.mem_map.mpr ⟨(k, w), List.mem_of_getElem? h', rfl⟩)
    rw [valV_neg ne]
    exact valV_at kvs i k w nd.2 h'
section
variable {K : PySem.W.Frag} {σ σ1 : L2.St} {env env1 env2 : Nv} {V H V1 H1 V2 H2 : Hp} {v : L2.V} {te ta tb ti td ty tx tv : TE}
theorem R.key (k : Key) : R K V (kV k) (keyT k) := by
  cases k with
  | inl n => exact .int n
  | inr s => exact .str s
theorem Al.hidden {D : Addr} {o : HO} (a : Al V H V1 H1) (h : H D = none) (v : V1 D = none) : Al V H V1 (upd H1 D o) := by
  refine ⟨a.ex, fun x u e => ?_, fun x u e => ?_, a.fr⟩
  · have n : x ≠ D := fun z => by rw [z, v] at e; cases e
    rw [upd_ne n]
    exact a.sub x u e
  · have n : x ≠ D := fun z => by rw [z, h] at e; cases e
    rw [upd_ne n]
    exact a.keep x u e
theorem ifT {A B : Prop} (h : A) : (if true = true then A else B) := by rw [if_pos rfl]; exact h
def iPairs (i j : Nat) : EvF := fun env => match env[i]? with
  | some (.val (.dictK ks ds)) => if i ≠ j ∧ j < env.length ∧ ds.length ≤ 100000 ∧ ks.Nodup then some (.new (.list (pairsD ks ds)), env) else none
  | _ => none
theorem sd_pairs {i j : Nat} : Sd K (tLockE (tLc (iKeys (tVar i)) (gName j) tYes (tTup (tCons (tVar j) (tCons (tDGet (tVar i) (tVar j)) tNil))) [j])) (iPairs i j) := by
  intro env res env' e σ V H ok Q q
  unfold iPairs at e
  split at e
  · rename_i ks ds he
    split at e
    · rename_i hc
      cases e
      obtain ⟨hij, hj, hz, nd⟩ := hc
      obtain ⟨v, h1, h2⟩ := ok.val he
      cases h2 with
      | @dictK d kvs _ _ g1 g2 g3 =>
        subst g2
        have hd : H d = some (.dK kvs) := ok.sub _ _ g1
        have hjσ : j < σ.length := by rw [ok.len]; exact hj
        have lens : kvs.length = ds.length := by have := g3.len; rwa [List.length_map] at this
        refine ⟨d, .dK kvs, hd, trivial, fun od => ?_⟩
        refine ⟨.ref d, h1, d, od, rfl, .inl ⟨kvs, upd_same, ?_⟩⟩
        intro D hD
        have nD : D ≠ d := fun z => by rw [z, upd_same] at hD; cases hD
        have hD' : H D = none := by rw [upd_ne nD] at hD; exact hD
        have vD0 : V D = none := Evl.fresh_back ok.sub hD'
        refine lc_it (n := kvs.length) walk_keys (fun m Hc => ∃ (V1 : Hp) (acc : List L2.V), Al V H V1 (upd Hc d (.dK kvs)) ∧ V1 D = none ∧ Hc d = some (.frz od (.dK kvs)) ∧ Hc D = some (.lst acc) ∧ RA K V1 acc ((pairsD (kvs.map (·.1)) ds).take m)) ⟨V, [], ?_, vD0, by rw [upd_ne (Ne.symm nD), upd_same], upd_same, .nil⟩ (fun m Hc _ ⟨V1, acc, _, _, fz, _, _⟩ => fz) ?_ ?_
        · have e0 : upd (upd (upd H d (.frz od (.dK kvs))) D (.lst [])) d (.dK kvs) = upd H D (.lst []) := by
            funext b
            by_cases hb : b = d
            · subst hb; rw [upd_same, upd_ne (Ne.symm nD), hd]
            · rw [upd_ne hb]
              by_cases hb2 : b = D
              · subst hb2; rw [upd_same, upd_same]
              · rw [upd_ne hb2, upd_ne hb2, upd_ne hb]
          rw [e0]
          exact Al.hid ok.sub hD'
        · rintro m x Hc H' hlt ⟨V1, acc, al, vD, fz, hDl, ra⟩ ⟨rfl, k, w, hk, rfl⟩
          have wv : valV kvs k = some w := valV_at kvs m k w nd hk
          have sj : ((wipe σ [j]).set j (some (kV k)))[j]? = some (some (kV k)) := List.getElem?_set_self (by rw [wipe_length]; exact hjσ)
          have si : ((wipe σ [j]).set j (some (kV k)))[i]? = some (some (.ref d)) := by
            show ((σ.set j none).set j (some (kV k)))[i]? = _
            rw [List.getElem?_set_ne (Ne.symm hij), List.getElem?_set_ne (Ne.symm hij)]
            exact h1
          refine ⟨?_, ?_⟩
          · show (((σ.set j none).set j (some (kV k))).set j none) = σ.set j none
            rw [List.set_set, List.set_set]
          · unfold tYes
            refine ifT ?_
            refine ⟨kV k, sj, .ref d, si, kV k, sj, d, w, rfl, .inl ⟨kvs, k, .inr ⟨od, fz⟩, rfl, wv.symm⟩, ?_⟩
            refine ⟨by show 2 ≤ sizeLine; decide, fun p hp => ?_⟩
            have npd : p ≠ d := fun z => by rw [z, fz] at hp; cases hp
            have npD : p ≠ D := fun z => by rw [z, hDl] at hp; cases hp
            have al1 : upd H' d (.dK kvs) p = none := by rw [upd_ne npd]; exact hp
            have al2 := al.trans (Al.new (o := .tup [kV k, w]) al.sub al1)
            have vD2 : upd V1 p (.tup [kV k, w]) D = none := by rw [upd_ne (Ne.symm npD)]; exact vD
            have al3 := Al.hidden (D := D) (o := .lst (acc ++ [.ref p])) al2 hD' vD2
            have ee : upd (upd (upd H' p (.tup [kV k, w])) D (.lst (acc ++ [.ref p]))) d (.dK kvs) = upd (upd (upd H' d (.dK kvs)) p (.tup [kV k, w])) D (.lst (acc ++ [.ref p])) := by
              funext b
              by_cases hb : b = d
              · subst hb; rw [upd_same, upd_ne (Ne.symm nD), upd_ne (Ne.symm npd), upd_same]
              · rw [upd_ne hb]
                by_cases hb2 : b = D
                · subst hb2; rw [upd_same, upd_same]
                · rw [upd_ne hb2, upd_ne hb2]
                  by_cases hb3 : b = p
                  · subst hb3; rw [upd_same, upd_same]
                  · rw [upd_ne hb3, upd_ne hb3, upd_ne hb]
            have kk : (kvs.map (·.1))[m]? = some k := by rw [List.getElem?_map, hk]; rfl
            obtain ⟨dd, d1, d2⟩ := g3.getV (show (kvs.map (·.2))[m]? = some w by rw [List.getElem?_map, hk]; rfl)
            have pg := pairsD_get _ _ m k dd kk d1
            have al0 : acc.length ≤ 99999 := by
              have := ra.len
              rw [List.length_take] at this
              omega
            refine ⟨acc, by rw [upd_ne (Ne.symm npD)]; exact hDl, Evl.sz_lt (by omega), upd V1 p (.tup [kV k, w]), acc ++ [.ref p], by rw [ee]; exact al3, vD2, by rw [upd_ne (Ne.symm nD), upd_ne (Ne.symm npd)]; exact fz, upd_same, ?_⟩
            rw [List.take_add_one, pg]
            have ex1 : Ex V1 (upd V1 p (.tup [kV k, w])) := (Al.new (o := .tup [kV k, w]) al.sub al1).ex
            exact (RA.mono ex1 _ _ ra).append (.cons (.tuple (Evl.st_of upd_same) (.cons (R.key k) (.cons (R.mono (al.ex.trans ex1) _ _ d2) .nil))) .nil)
        · rintro Hc ⟨V1, acc, al, vD, fz, hDl, ra⟩
          refine ⟨fz, q _ V1 _ (al.adv ok) ⟨D, rfl, .inl hD', vD, fun w => ok.notOwn hD' w, acc, by rw [upd_ne nD]; exact hDl, ?_⟩⟩
          rw [List.take_of_length_le (by rw [pairsD_len _ _ (by rw [List.length_map]; exact lens), List.length_map]; exact Nat.le_refl _)] at ra
          exact ra
    · cases e
  · cases e
/-! x.reverse() -/
def iRvs (i : Nat) : EvF := fun env => match env[i]? with
  | some (.own q (.list ds)) => some (.val .none, env.set i (.own q (.list ds.reverse)))
  | _ => none
theorem sd_rvs {i : Nat} : Sd K (tBM0 K "list" rReverse (tVar i)) (iRvs i) := by
  intro env res env' e σ V H ok Q q
  unfold iRvs at e
  split at e
  · rename_i p ds he
    cases e
    obtain ⟨l, y1, y2, xs, y3, y4⟩ := ok.ownC he
    refine ⟨_, y1, .inl ⟨rfl, xs, Evl.sq_of y3⟩, ?_⟩
    exact ⟨l, xs, rfl, rfl, y3, q _ V _ (adv_upd (Adv.refl ok) he y1 ⟨xs.reverse, upd_same, y4.rev⟩) .none⟩
  · cases e
end
section
variable {X : Cx} {k : Nat} {o e i value : Expr} {pos pos' p cpos : Pos} {f g h : EvF} {x y : Str}
theorem pdRvs (i : Nat) {apos p : Pos} (hN : X.N[i]? = some x := by rfl) (hv : Vis X.env.scope x := by first | exact Or.inl rfl | exact Or.inr (Or.inl rfl) | exact Or.inr (Or.inr rfl)) (hd : (x == ("__debug__" : Str)) = false := by decide) (hcd : (x == ("__classdict__" : Str)) = false := by decide)
    (h1 : attributeBase (.Name x p) "reverse" X.env (eval (.Name x p) X.env) = eval (.Name x p) X.env := by rfl) (h2 : (apos.endLine == pos.line) = true := by rfl) : PD X (.Call (.Attribute (.Name x p) "reverse" apos) [] [] pos) (iRvs i) :=
  ⟨_, pe_bm0 PySem.F.plainAttrs_list PySem.F.slot_list_reverse PySem.F.type_list_reverse mt_reverse (pe_var hN hv hd hcd) h1 h2, sd_rvs⟩
theorem pdPairs {k : Nat} {scope : Scope} {px px2 py py2 py3 pos2 pos3 : Pos} {c : Nat} (i j : Nat) (hr : Room k X.A) (hc : X.calm = true) (nd : X.N.Nodup) (ok : BlkOk X.N X.env.scope scope [(y, j)]) (hi : PE X (.Name x px) (tVar i))
    (hg : ∀ (s : Shared) (H : Hp) (C : Addr) (cl : List (Str × Addr)) (fp : List Addr), PG (X.blk s H scope (compEnvC scope cl C X.env) fp) (.Name y py) (gName j))
    (hk : ∀ (s : Shared) (H : Hp) (C : Addr) (cl : List (Str × Addr)) (fp : List Addr), PE (X.blk s H scope (compEnvC scope cl C X.env) fp) (.Name y py2) (tVar j))
    (ht : ∀ (s : Shared) (H : Hp) (C : Addr) (cl : List (Str × Addr)) (fp : List Addr), PE (X.blk s H scope (compEnvC scope cl C X.env) fp) (.Name x px2) (tVar i))
    (hk2 : ∀ (s : Shared) (H : Hp) (C : Addr) (cl : List (Str × Addr)) (fp : List Addr), PE (X.blk s H scope (compEnvC scope cl C X.env) fp) (.Name y py3) (tVar j)) :
    PD X (.ListComp (.Tuple [.Name y py2, .Subscript (.Name x px2) (.Name y py3) pos2] c pos3) [⟨.Name y py, .Name x px, [], 0⟩] scope pos) (iPairs i j) :=
  ⟨_, pe_lock (pe_lc (own := [(y, j)]) hc nd (pi_keys hi) ok hg (fun _ _ _ _ _ => pts_nil) (fun s H C cl fp => pe_tup (pa_cons (hk s H C cl fp) (pa_cons (pe_dget (X := X.blk s H scope (compEnvC scope cl C X.env) fp) (hu_of hr) (ht s H C cl fp) (hk2 s H C cl fp) (by intro _ _; rfl)) pa_nil)))), sd_pairs⟩
end
end DL

/-! Dead slots forgotten; walks; reversed; setdefault; dict comprehensions. -/
namespace DL
open PySem PySem.Spec PyProof.Rows L2
open Evl (Ex)
section
variable {K : PySem.W.Frag} {σ σ1 : L2.St} {env env1 env2 : Nv} {V H V1 H1 V2 H2 : Hp} {v : L2.V} {te ta tb ti td ty tx tv : TE} {t u : TS} {f g : StF}
/-! ### dead slots -/
def iBef (vs : List Nat) (f : StF) : StF := fun env => (wipeN env vs).bind f
theorem sds_bef {vs : List Nat} (h : SdS K t f) : SdS K t (iBef vs f) := by
  intro env fl e σ V H ok E q
  simp only [iBef, Option.bind_eq_some_iff] at e
  obtain ⟨e1, h1, h2⟩ := e
  have a := (adv_wipe (Adv.refl ok) h1).2
  exact h _ _ h2 σ V H a.ok E (q.of a)
def wfl (vs : List Nat) : Fl → Option Fl
  | .next e => (wipeN e vs).map .next
  | .cont e => (wipeN e vs).map .cont
  | .brk e => (wipeN e vs).map .brk
  | .ret r e => some (.ret r e)
def iAft (vs : List Nat) (f : StF) : StF := fun env => (f env).bind (wfl vs)
theorem sds_aft {vs : List Nat} (h : SdS K t f) : SdS K t (iAft vs f) := by
  intro env fl e σ V H ok E q
  simp only [iAft, Option.bind_eq_some_iff] at e
  obtain ⟨fl1, h1, h2⟩ := e
  refine h _ _ h1 σ V H ok E ?_
  cases fl1 with
  | next e1 =>
    simp only [wfl, Option.map_eq_some_iff] at h2
    obtain ⟨e2, h3, rfl⟩ := h2
    exact fun σ' V' H' a => q σ' V' H' (adv_wipe a h3).2
  | cont e1 =>
    simp only [wfl, Option.map_eq_some_iff] at h2
    obtain ⟨e2, h3, rfl⟩ := h2
    exact fun σ' V' H' a => q σ' V' H' (adv_wipe a h3).2
  | brk e1 =>
    simp only [wfl, Option.map_eq_some_iff] at h2
    obtain ⟨e2, h3, rfl⟩ := h2
    exact fun σ' V' H' a => q σ' V' H' (adv_wipe a h3).2
  | ret r e1 =>
    cases h2
    exact q
/-! ### one of two meanings -/
def iAlt (f g : EvF) : EvF := fun env => match f env with
  | some r => some r
  | none => g env
def tEither (t u : TE) : TE := fun σ H Q => t σ H Q ∨ u σ H Q
theorem sd_alt {f g : EvF} (h : Sd K ta f) (k : Sd K tb g) : Sd K (tEither ta tb) (iAlt f g) := by
  intro env res env' e σ V H ok Q q
  unfold iAlt at e
  split at e
  · rename_i r hr
    cases e
    exact .inl (h _ _ _ hr σ V H ok Q q)
  · exact .inr (k _ _ _ e σ V H ok Q q)
/-! ### a walk -/
/-- J walks ds while what is visible in V stands -/
def WkOk (K : PySem.W.Frag) (J : It) (V : Hp) (ds : List D) : Prop := ∃ (n : Nat) (G : Hp → Prop) (Y : Nat → Hp → L2.V → Hp → Prop), n = ds.length ∧ Walk J n G Y ∧ (∀ V1 H1, Ex V V1 → Ex V1 H1 → G H1) ∧
  ∀ i d V1 H1 x H', ds[i]? = some d → Ex V V1 → Ex V1 H1 → Y i H1 x H' → ∃ V2, Al V1 H1 V2 H' ∧ R K V2 x d
theorem WkOk.mk {J : It} {ds : List D} (w : WkOk K J V ds) : Mk K J σ V H ds ∧ MkC K J σ V H ds := by
  obtain ⟨n, G, Y, rfl, w, hG, hY⟩ := w
  constructor
  · intro g tb E Pv h0 hx hi hd
    refine for_it w (fun i σ1 H1 => ∃ V1, Pv i σ1 V1 H1) ⟨V, h0⟩ (fun i σ1 H1 _ ⟨V1, p⟩ => hG V1 H1 (hx _ _ _ _ p).1 (hx _ _ _ _ p).2) ?_ (fun σ1 H1 ⟨V1, p⟩ => hd σ1 V1 H1 p)
    rintro i x σ1 H1 H' hlt ⟨V1, p⟩ y
    obtain ⟨p1, p2⟩ := hx i σ1 V1 H1 p
    obtain ⟨V2, al, r⟩ := hY i _ V1 H1 x H' (List.getElem?_eq_getElem hlt) p1 p2 y
    exact hi i _ σ1 V1 H1 (List.getElem?_eq_getElem hlt) p x V2 H' al r
  · intro g tt te vs Dl Pv Qd h0 hx hi hd
    refine lc_it w (fun i H1 => ∃ V1, Pv i V1 H1) ⟨V, h0⟩ (fun i H1 _ ⟨V1, p⟩ => hG V1 H1 (hx _ _ _ p).1 (hx _ _ _ p).2) ?_ (fun H1 ⟨V1, p⟩ => hd V1 H1 p)
    rintro i x H1 H' hlt ⟨V1, p⟩ y
    obtain ⟨p1, p2⟩ := hx i V1 H1 p
    obtain ⟨V2, al, r⟩ := hY i _ V1 H1 x H' (List.getElem?_eq_getElem hlt) p1 p2 y
    exact hi i _ V1 H1 (List.getElem?_eq_getElem hlt) p x V2 H' al r
def SdW (K : PySem.W.Frag) (wi : TI) (f : ItF) : Prop := ∀ env ds env', f env = some (ds, env') → ∀ (σ : L2.St) (V H : Hp), NvOk K V H σ env →
  ∀ Rr : It → Hp → Prop, (∀ J V' H', Adv K σ env σ env' V H V' H' → WkOk K J V' ds → Rr J H') → wi σ H Rr
theorem SdW.i {wi : TI} {f : ItF} (h : SdW K wi f) : SdI K wi f := fun env ds env' e σ V H ok Rr q => h env ds env' e σ V H ok Rr fun J V' H' a w => q J V' H' a w.mk
theorem wk_list {a : Addr} {xs : List L2.V} {ds : List D} (hs : SqL K V a xs) (r : RA K V xs ds) : WkOk K (Itl K a) V ds := by
  refine ⟨xs.length, _, _, r.len, walk_list, fun V1 H1 e1 e2 => Evl.ex_l (e1.trans e2) hs, ?_⟩
  rintro i d V1 H1 x H' hd e1 e2 ⟨rfl, hx⟩
  obtain ⟨d', h1, h2⟩ := r.getV hx
  rw [hd] at h1
  cases h1
  exact ⟨V1, Al.refl e2, R.mono e1 _ _ h2⟩
theorem wk_tup {a : Addr} {xs : List L2.V} {ds : List D} (hs : SqT K V a xs) (r : RA K V xs ds) : WkOk K (Itt K a) V ds := by
  refine ⟨xs.length, _, _, r.len, walk_tup, fun V1 H1 e1 e2 => Evl.ex_t (e1.trans e2) hs, ?_⟩
  rintro i d V1 H1 x H' hd e1 e2 ⟨rfl, hx⟩
  obtain ⟨d', h1, h2⟩ := r.getV hx
  rw [hd] at h1
  cases h1
  exact ⟨V1, Al.refl e2, R.mono e1 _ _ h2⟩
theorem walk_revT {a : Addr} {xs : List L2.V} : Walk (RT.ItvT K a xs.length) xs.length (fun H => SqT K H a xs) (fun i H x H' => H' = H ∧ xs[xs.length - 1 - i]? = some x) :=
  ⟨fun i _ hi q => ⟨hi, xs, xs[xs.length - 1 - i]'(by omega), q, by simp [show xs.length - 1 - i < xs.length by omega]⟩, fun _ _ => Nat.le_refl _, fun _ _ _ _ _ q y => ⟨y.1, y.2 xs q⟩⟩
theorem rev_at {α : Type} {xs : List α} {i : Nat} {d : α} (h : xs.reverse[i]? = some d) : xs[xs.length - 1 - i]? = some d := by
  have hi : i < xs.reverse.length := (List.getElem?_eq_some_iff.mp h).1
  rw [List.length_reverse] at hi
  rwa [List.getElem?_reverse hi] at h
theorem wk_rev {a : Addr} {xs : List L2.V} {ds : List D} (hs : SqL K V a xs) (r : RA K V xs ds) : WkOk K (Itv K a xs.length) V ds.reverse := by
  refine ⟨xs.length, _, _, by rw [List.length_reverse]; exact r.len, walk_rev, fun V1 H1 e1 e2 => Evl.ex_l (e1.trans e2) hs, ?_⟩
  rintro i d V1 H1 x H' hd e1 e2 ⟨rfl, hx⟩
  obtain ⟨d', h1, h2⟩ := r.getV hx
  rw [r.len, rev_at hd] at h1
  cases h1
  exact ⟨V1, Al.refl e2, R.mono e1 _ _ h2⟩
theorem wk_revT {a : Addr} {xs : List L2.V} {ds : List D} (hs : SqT K V a xs) (r : RA K V xs ds) : WkOk K (RT.ItvT K a xs.length) V ds.reverse := by
  refine ⟨xs.length, _, _, by rw [List.length_reverse]; exact r.len, walk_revT, fun V1 H1 e1 e2 => Evl.ex_t (e1.trans e2) hs, ?_⟩
  rintro i d V1 H1 x H' hd e1 e2 ⟨rfl, hx⟩
  obtain ⟨d', h1, h2⟩ := r.getV hx
  rw [r.len, rev_at hd] at h1
  cases h1
  exact ⟨V1, Al.refl e2, R.mono e1 _ _ h2⟩
theorem sdw_seq {f : EvF} (ha : Sd K te f) : SdW K (iSq K te) (iSeqI f) := by
  intro env ds env' e σ V H ok Rr q
  simp only [iSeqI, Option.bind_eq_some_iff] at e
  obtain ⟨⟨r, e1⟩, h1, d, h2, h3⟩ := e
  refine opd_snd ha h1 ok fun v V' H' a k => ?_
  have r0 : R K V' v d := by
    cases r with
    | val d' => cases h2; exact k
    | new d' => exact k.elim
    | own j => cases h2
  cases d with
  | list es =>
    cases h3
    cases r0 with
    | @list p xs _ hs hr => exact ⟨p, rfl, .inl ⟨⟨xs, Evl.ex_l a.ok.sub hs⟩, q _ V' H' a (wk_list hs hr)⟩⟩
  | tuple es =>
    cases h3
    cases r0 with
    | @tuple p xs _ hs hr => exact ⟨p, rfl, .inr ⟨⟨xs, Evl.ex_t a.ok.sub hs⟩, q _ V' H' a (wk_tup hs hr)⟩⟩
  | _ => cases h3
/-- reversed(x) -/
def iRevI (f : EvF) : ItF := fun env => (iSeqI f env).map fun p => (p.1.reverse, p.2)
theorem sdw_rev {f : EvF} (ha : Sd K te f) : SdW K (RT.iRevA K te) (iRevI f) := by
  intro env ds env' e σ V H ok Rr q
  simp only [iRevI, Option.map_eq_some_iff] at e
  obtain ⟨⟨ds0, e0⟩, e, e2⟩ := e
  cases e2
  simp only [iSeqI, Option.bind_eq_some_iff] at e
  obtain ⟨⟨r, e1⟩, h1, d, h2, h3⟩ := e
  refine opd_snd ha h1 ok fun v V' H' a k => ?_
  have r0 : R K V' v d := by
    cases r with
    | val d' => cases h2; exact k
    | new d' => exact k.elim
    | own j => cases h2
  cases d with
  | list es =>
    cases h3
    cases r0 with
    | @list p xs _ hs hr => exact ⟨p, xs, rfl, .inl ⟨Evl.ex_l a.ok.sub hs, q _ V' H' a (wk_rev hs hr)⟩⟩
  | tuple es =>
    cases h3
    cases r0 with
    | @tuple p xs _ hs hr => exact ⟨p, xs, rfl, .inr ⟨Evl.ex_t a.ok.sub hs, q _ V' H' a (wk_revT hs hr)⟩⟩
  | _ => cases h3
/-! ### d.setdefault(k, x), d a container of its own -/
def iDSet (i : Nat) (g f : EvF) : EvF := fun env => match env[i]? with
  | some (.own _ (.dictK _ _)) => (opd g env).bind fun r => (opd f r.2).bind fun s => (look s.2 r.1).bind fun y => (keyD y).bind fun k => (vis s.1).bind fun x => match s.2[i]? with
    | some (.own q (.dictK ks ds)) => if ds.length < 100000 ∧ ks.Nodup then match findD ks ds k with
      | some z => some (.val z, s.2)
      | none => some (.val x, s.2.set i (.own q (.dictK (putD ks ds k x).1 (putD ks ds k x).2))) else none
    | _ => none
  | _ => none
theorem sd_dset {i : Nat} {g f : EvF} (hg : Sd K ty g) (hf : Sd K tx f) : Sd K (tDSetd (tVar i) ty tx) (iDSet i g f) := by
  intro env res env' e σ V H ok Q q
  unfold iDSet at e
  split at e
  · rename_i q0 ks0 ds0 he0
    simp only [Option.bind_eq_some_iff] at e
    obtain ⟨⟨r1, e1⟩, h1, ⟨r2, e2⟩, h2, y, h3, k, h4, x, h5, h6⟩ := e
    split at h6
    · rename_i q1 ks ds he
      split at h6
      · rename_i hz
        obtain ⟨l0, g1, g2, kvs0, g3, _⟩ := ok.ownC he0
        refine ⟨_, g1, _, rfl, .inl ⟨kvs0, .inl g3⟩, ?_⟩
        refine opd_snd hg h1 ok fun v V1 H1 a1 k1 => ?_
        refine opd_snd hf h2 a1.ok fun w V2 H2 a2 k2 => ?_
        have a := a1.trans a2
        have rx : R K V2 w x := by
          cases r2 with
          | val d' => cases h5; exact k2
          | new d' => exact k2.elim
          | own j => cases h5
        have hy := ((k1.mono a2.ex).look a.ok h3).seen a.ok.sub
        have hk := key_of hy h4
        subst hk
        obtain ⟨l, y1, y2, kvs, y3, y4, y5⟩ := a.ok.ownC he
        rw [g1] at y1
        cases y1
        subst y4
        have hl : kvs.length < sizeLine := Evl.sz_lt (by have := y5.len; rw [List.length_map] at this; rw [this]; exact hz.1)
        obtain ⟨f1, f2⟩ := find_val k kvs ds y5
        refine ⟨kvs, k, y3, rfl, hl, fun v hv => ?_, fun hn => ?_⟩
        · cases hfd : findD (kvs.map (·.1)) ds k with
          | none => rw [f2 hfd] at hv; cases hv
          | some z =>
            rw [hfd] at h6
            cases h6
            obtain ⟨v', v1, v2⟩ := f1 z hfd
            rw [hv] at v1
            cases v1
            exact q v V2 H2 a v2
        · cases hfd : findD (kvs.map (·.1)) ds k with
          | some z =>
            obtain ⟨v', v1, v2⟩ := f1 z hfd
            rw [hn] at v1
            cases v1
          | none =>
            rw [hfd] at h6
            cases h6
            obtain ⟨p1, p2⟩ := put_val k rx kvs ds hz.2 y5
            exact q w V2 _ (adv_upd a he g1 ⟨putK kvs k w, upd_same, p1, p2⟩) rx
      · cases h6
    · cases h6
  · cases e
/-! ### list(d) -/
def keysD (ks : List Key) : List D := ks.map keyT
theorem ra_keys : ∀ kvs : List (Key × L2.V), RA K V (kvs.map fun kv => kV kv.1) (keysD (kvs.map (·.1)))
  | [] => .nil
  | kv :: kvs => .cons (R.key kv.1) (ra_keys kvs)
def gListD : D → Option Res
  | .dictK ks _ => some (.new (.list (keysD ks)))
  | _ => none
theorem call_listD_ok : CallOk K (fun xs H Q => ∃ (a : Addr) (kvs : List (Key × L2.V)), xs = [.ref a] ∧ Rd H a (.dK kvs) ∧ ∀ p, H p = none → Q (.ref p) (upd H p (.lst (kvs.map fun kv => kV kv.1)))) (c1 gListD) := by
  intro V H vs ds res sub hv hg Q q
  unfold c1 at hg
  split at hg
  · obtain ⟨v, rfl, hx⟩ := hv.one
    rename_i d
    cases d with
    | dictK ks es =>
      cases hg
      obtain ⟨a, kvs, rfl, h1, h2, h3⟩ := dk_of hx sub
      subst h2
      refine ⟨a, kvs, rfl, .inl h1, fun l hl => ?_⟩
      exact q _ _ _ (Al.hid sub hl) ⟨l, rfl, hl, Evl.fresh_back sub hl, _, upd_same, ra_keys kvs⟩
    | _ => cases hg
  · cases hg
/-! ### dict comprehensions -/
def dcLoop (g : TgF) (c : EvT) (fk fv : EvF) (vs : List Nat) : List D → Nv → List Key → List D → Option (List Key × List D × Nv)
  | [], env, ks, es => some (ks, es, env)
  | d :: ds, env, ks, es => (g env d).bind fun e1 => (c e1).bind fun p => if p.1 = true then
      (opd fk p.2).bind fun q => (opd fv q.2).bind fun r => (look r.2 q.1).bind fun y => (keyD y).bind fun k => (vis r.1).bind fun x => (wipeN r.2 vs).bind fun e3 =>
        if es.length < 100000 ∧ ks.Nodup then dcLoop g c fk fv vs ds e3 (putD ks es k x).1 (putD ks es k x).2 else none
    else (wipeN p.2 vs).bind fun e3 => dcLoop g c fk fv vs ds e3 ks es
def iDc (it : ItF) (g : TgF) (c : EvT) (fk fv : EvF) (vs : List Nat) : EvF := fun env => (it env).bind fun p => (wipeN p.2 vs).bind fun e1 => (dcLoop g c fk fv vs p.1 e1 [] []).bind fun q => some (.new (.dictK q.1 q.2.1), q.2.2)
theorem dc_it {J : It} {n : Nat} {G : Hp → Prop} {Y : Nat → Hp → L2.V → Hp → Prop} (w : Walk J n G Y) {g : TG} {tt : TT} {tk tv : TE} {vs : List Nat} {σ : L2.St} {H1 : Hp} {D : Addr} {Qd : Hp → Prop} (Pv : Nat → Hp → Prop) (h0 : Pv 0 (upd H1 D (.dK []))) (hG : ∀ i H, i ≤ n → Pv i H → G H)
    (hs : ∀ i x H H', i < n → Pv i H → Y i H x H' → g x (wipe σ vs) H' fun σ2 H2 => wipe σ2 vs = wipe σ vs ∧ tt σ2 H2 fun b H3 =>
      if b = true then tk σ2 H3 fun y H4 => tv σ2 H4 fun z H5 => ∃ kvs k, y = kV k ∧ H5 D = some (.dK kvs) ∧ kvs.length < sizeLine ∧ Pv (i + 1) (upd H5 D (.dK (putK kvs k z))) else Pv (i + 1) H3) (hd : ∀ H, Pv n H → Qd H) :
    ∃ W : Nat → Nat → Hp → Prop, (∃ m, W 0 m (upd H1 D (.dK []))) ∧ ∀ i m H, W i m H →
      (J.stop i H ∧ Qd H) ∨ (J.go i H ∧ ∃ Nx : Hp → Prop, (∀ H', Nx H' → ∃ m', m' < m ∧ W (i + 1) m' H') ∧ ∀ x H', J.yld i H x H' → g x (wipe σ vs) H' fun σ2 H2 => wipe σ2 vs = wipe σ vs ∧ tt σ2 H2 fun b H3 =>
        if b = true then tk σ2 H3 fun y H4 => tv σ2 H4 fun z H5 => ∃ kvs k, y = kV k ∧ H5 D = some (.dK kvs) ∧ kvs.length < sizeLine ∧ Nx (upd H5 D (.dK (putK kvs k z))) else Nx H3) := by
  refine ⟨fun i m H => m = n - i ∧ i ≤ n ∧ Pv i H, ⟨n, by simp, Nat.zero_le _, h0⟩, ?_⟩
  rintro i m H ⟨rfl, hi, p⟩
  have q := hG i H hi p
  by_cases hlt : i < n
  · refine .inr ⟨w.goes i H hlt q, Pv (i + 1), fun H' p' => ⟨n - (i + 1), by omega, rfl, hlt, p'⟩, fun x H' y => hs i x H H' hlt p (w.yields i H x H' hlt q y)⟩
  · have e : i = n := by omega
    subst e
    exact .inl ⟨w.stops H q, hd H p⟩
theorem sd_dc {wi : TI} {it : ItF} {tg : TG} {g : TgF} {tt : TT} {c : EvT} {tk tv : TE} {fk fv : EvF} {vs : List Nat} (hi : SdW K wi it) (hg : SdGv K tg g vs) (hc : SdT K tt c) (hk : Sd K tk fk) (hv : Sd K tv fv) : Sd K (tDc wi tg tt tk tv vs) (iDc it g c fk fv vs) := by
  intro env res env' e σ V H ok Q q
  simp only [iDc, Option.bind_eq_some_iff] at e
  obtain ⟨⟨ds, e0⟩, h1, e1, h2, ⟨oks, oes, e2⟩, h3, h4⟩ := e
  cases h4
  refine hi _ _ _ h1 σ V H ok _ fun J V' H' a wk Dl hD => ?_
  obtain ⟨n, G, Y, hn, w, hG, hY⟩ := wk
  obtain ⟨aw, as⟩ := adv_wipe a h2
  have vD : V' Dl = none := Evl.fresh_back a.ok.sub hD
  have hD0 : H Dl = none := by
    cases y : H Dl with
    | none => rfl
    | some o => exact absurd hD (a.dom Dl (by rw [y]; exact fun z => by cases z))
  refine dc_it w (fun i H1 => ∃ V1 env1 ks es kvs, Adv K σ env (wipe σ vs) env1 V H V1 H1 ∧ Adv K σ env σ env1 V H V1 H1 ∧ Ex V' V1 ∧ V1 Dl = none ∧ ¬ Own env1 (wipe σ vs) Dl ∧ H1 Dl = some (.dK kvs) ∧ kvs.map (·.1) = ks ∧ RA K V1 (kvs.map (·.2)) es ∧ (∀ j, j ∈ vs → env1[j]? = some .no) ∧ dcLoop g c fk fv vs (ds.drop i) env1 ks es = some (oks, oes, e2)) ?_ ?_ ?_ ?_
  · have nO : ¬ Own e1 (wipe σ vs) Dl := aw.ok.notOwn hD
    exact ⟨V', e1, [], [], [], adv_grow aw hD0 vD nO, adv_grow as hD0 vD (as.ok.notOwn hD), Evl.Ex.refl _, vD, nO, upd_same, rfl, .nil, wipeN_clean h2, h3⟩
  · rintro i H1 _ ⟨V1, env1, ks, es, kvs, b, b', x, _⟩
    exact hG V1 H1 x b.ok.sub
  · rintro i x H1 H2 hlt ⟨V1, env1, ks, es, kvs, b, b', x1, d1, d2, d3, d4, d5, d6, hl⟩ yy
    have hlt' : i < ds.length := by omega
    obtain ⟨V2, al, r⟩ := hY i _ V1 H1 x H2 (List.getElem?_eq_getElem hlt') x1 b.ok.sub yy
    rw [List.drop_eq_getElem_cons hlt'] at hl
    simp only [dcLoop, Option.bind_eq_some_iff] at hl
    obtain ⟨e3, g1, ⟨bb, e4⟩, g2, g3⟩ := hl
    have b2 := al.adv b.ok
    refine hg _ _ _ g1 (wipe σ vs) V2 H2 x b2.ok r _ fun σ3 a3 w3 => ⟨by rw [w3, wipe_wipe], ?_⟩
    refine hc _ _ _ g2 σ3 V2 H2 a3.ok _ fun V4 H4 a4 => ?_
    have a5 := (b2.trans a3).trans a4
    have back : ∀ (V5 H5 : Hp) (e5 e6 : Nv), Adv K (wipe σ vs) env1 σ3 e5 V1 H1 V5 H5 → wipeN e5 vs = some e6 → Adv K (wipe σ vs) env1 (wipe σ vs) e6 V1 H1 V5 H5 := by
      intro V5 H5 e5 e6 a6 hw
      have a7 := (adv_wipe a6 hw).1
      rw [w3, wipe_wipe] at a7
      exact a7
    cases bb with
    | true =>
      rw [if_pos rfl]
      rw [if_pos rfl] at g3
      simp only [Option.bind_eq_some_iff] at g3
      obtain ⟨⟨rk, e5⟩, g4, ⟨rv, e6⟩, g5, y, g6, k, g7, z, g8, e7, g9, g10⟩ := g3
      split at g10
      · rename_i hz
        refine opd_snd hk g4 a4.ok fun vk V5 H5 a6 c5 => ?_
        refine opd_snd hv g5 a6.ok fun vv V6 H6 a7 c6 => ?_
        have a8 := (a5.trans a6).trans a7
        have a9 := back V6 H6 e6 e7 a8 g9
        obtain ⟨y1, y2⟩ := adv_hid a9 d3 d1 d2
        have rz : R K V6 vv z := by
          cases rv with
          | val d' => cases g8; exact c6
          | new d' => exact c6.elim
          | own j => cases g8
        have hy := ((c5.mono a7.ex).look a8.ok g6).seen a8.ok.sub
        have hkk := key_of hy g7
        have a10 := b.trans a9
        have nO : ¬ Own e7 (wipe σ vs) Dl := fun w => by
          rcases a9.own Dl w with m | m
          · exact d2 m
          · rw [d3] at m; cases m
        have clean := wipeN_clean g9
        have a11 : Adv K σ env σ e7 V H V6 H6 := adv_orig a10 clean
        have ra6 := RA.mono a9.ex _ _ d5
        have hl6 : kvs.length < sizeLine := Evl.sz_lt (by have := d5.len; rw [List.length_map] at this; rw [this]; exact hz.1)
        have ndk : (kvs.map (·.1)).Nodup := by rw [d4]; exact hz.2
        obtain ⟨p1, p2⟩ := put_val k rz kvs es ndk ra6
        rw [d4] at p1 p2
        refine ⟨kvs, k, hkk, y1, hl6, V6, e7, _, _, putK kvs k vv, adv_grow a10 hD0 y2 nO, adv_grow a11 hD0 y2 ?_, x1.trans a9.ex, y2, nO, upd_same, p1, p2, clean, g10⟩
        exact fun w => nO (own_orig clean w)
      · cases g10
    | false =>
      rw [if_neg Bool.false_ne_true]
      rw [if_neg Bool.false_ne_true] at g3
      simp only [Option.bind_eq_some_iff] at g3
      obtain ⟨e6, g6, g7⟩ := g3
      have a8 := back V4 H4 e4 e6 a5 g6
      obtain ⟨y1, y2⟩ := adv_hid a8 d3 d1 d2
      have a9 := b.trans a8
      have nO : ¬ Own e6 (wipe σ vs) Dl := fun w => by
        rcases a8.own Dl w with m | m
        · exact d2 m
        · rw [d3] at m; cases m
      have clean := wipeN_clean g6
      exact ⟨V4, e6, ks, es, kvs, a9, adv_orig a9 clean, x1.trans a8.ex, y2, nO, y1, d4, RA.mono a8.ex _ _ d5, clean, g7⟩
  · rintro H1 ⟨V1, env1, ks, es, kvs, b, b', x, d1, d2, d3, d4, d5, d6, hl⟩
    rw [hn, List.drop_length] at hl
    cases hl
    exact q _ V1 H1 b' ⟨Dl, rfl, .inl hD0, d1, fun w => d2 (own_orig d6 w), kvs, d3, d4, d5⟩
end
def IW (X : Cx) (tg e : Expr) (f : ItF) : Prop := ∃ t, PI X tg e t ∧ SdW X.K t f
section
variable {X : Cx} {k : Nat} {a b e l tg elt iter kx vx o : Expr} {es ifs : List Expr} {pos p p2 : Pos} {fa fb f g h : EvF} {fs : EvA} {x : Str} {vs : List Nat} {st : Stmt} {rest : List Stmt} {sf : StF}
theorem stBef (vs : List Nat) (h : StD X st sf) : StD X st (iBef vs sf) := let ⟨_, h1, k1⟩ := h; ⟨_, h1, sds_bef k1⟩
theorem stAft (vs : List Nat) (h : StD X st sf) : StD X st (iAft vs sf) := let ⟨_, h1, k1⟩ := h; ⟨_, h1, sds_aft k1⟩
theorem bdAft (vs : List Nat) (h : BD X rest sf) : BD X rest (iAft vs sf) := let ⟨_, h1, k1⟩ := h; ⟨_, h1, sds_aft k1⟩
theorem pdAlt (h : PD X e f) (k : PD X e g) : PD X e (iAlt f g) := by
  obtain ⟨t, h1, h2⟩ := h
  obtain ⟨u, k1, k2⟩ := k
  exact ⟨tEither t u, ⟨fun pins s σ H Q I q => q.elim (h1.run pins s σ H Q I) (k1.run pins s σ H Q I)⟩, sd_alt h2 k2⟩
theorem iwSeq (he : PD X e f) : IW X tg e (iSeqI f) := let ⟨_, h1, k1⟩ := he; ⟨_, pi_sq h1, sdw_seq k1⟩
theorem iwRev (hg : Gl X "reversed") (hm : X.mg "reversed" = none) (he : PD X e f) (hs : starEach [e] X.env = (false, eval e X.env) :: starEach [] X.env := by rfl) : IW X tg (.Call (.Name "reversed" p) [e] [] pos) (iRevI f) :=
  let ⟨_, h1, k1⟩ := he; ⟨_, RT.pi_revA hg hm h1 hs, sdw_rev k1⟩
theorem IW.d {it : ItF} (h : IW X tg e it) : ID X tg e it := let ⟨_, h1, k1⟩ := h; ⟨_, h1, k1.i⟩
theorem pdDSet (n : Nat) {apos cpos p : Pos} (hi : PD X e g) (hf : PD X o f) (hN : X.N[n]? = some x := by rfl) (hv : Vis X.env.scope x := by first | exact Or.inl rfl | exact Or.inr (Or.inl rfl) | exact Or.inr (Or.inr rfl)) (hd : (x == ("__debug__" : Str)) = false := by decide) (hcd : (x == ("__classdict__" : Str)) = false := by decide)
    (m : M2 X (.Name x p) "setdefault" apos e o cpos := by exact ⟨by rfl, by rfl, by rfl, by rfl⟩) : PD X (.Call (.Attribute (.Name x p) "setdefault" apos) [e, o] [] cpos) (iDSet n g f) :=
  let ⟨_, g1, k1⟩ := hi; let ⟨_, g2, k2⟩ := hf
  ⟨_, pe_dsetd (pe_var hN hv hd hcd) g1 g2 m, sd_dset k1 k2⟩
theorem bListU (hc : X.calm = true) (m : X.mg "list" = none) (hg : Gl X "list") (ha : AD X [e] fs) (he : starEach [e] X.env = (false, eval e X.env) :: starEach [] X.env := by rfl) : PD X (.Call (.Name "list" p) [e] [] pos) (iCB (altC (c1 gList) (c1 gListD)) fs) :=
  pdBT (callOr call_list_of (call_listD hc)) (callOkOr call_list_ok call_listD_ok) hg m boot_list ha (by decide) (by decide) he
theorem pdDIn {k : Nat} (hr : Room k X.A) (hm : behindInMarks .In b = false) (hb : PD X a g) (ha : PD X b f) : PD X (.Compare a [.In] [b] pos) (iDIn false g f) :=
  let ⟨_, g1, k1⟩ := hb; let ⟨_, g2, k2⟩ := ha; ⟨_, pe_cmp (pc_din (hu_of hr) g1 g2) hm, (sd_din k1 k2).1⟩
theorem pdDNotIn {k : Nat} (hr : Room k X.A) (hm : behindInMarks .NotIn b = false) (hb : PD X a g) (ha : PD X b f) : PD X (.Compare a [.NotIn] [b] pos) (iDIn true g f) :=
  let ⟨_, g1, k1⟩ := hb; let ⟨_, g2, k2⟩ := ha; ⟨_, pe_cmp (pc_dnotin (hu_of hr) g1 g2) hm, (sd_din k1 k2).2⟩
end
end DL

/-! Dict comprehensions in the generator's words; enumerate of a list or a tuple. -/
namespace DL
open PySem PySem.Spec PyProof.Rows L2
open Evl (Ex)
section
variable {X : Cx}
theorem ps_setDc {i : Nat} {y : Str} {py : Pos} {kx vx tg iter : Expr} {ifs : List Expr} {scope : Scope} {own : List (Str × Nat)} {pos spos : Pos} {wi : TI} {g : TG} {tt : TT} {tk tv : TE} (hc : X.calm = true) (hN : X.N.Nodup) (hy : X.N[i]? = some y) (hyl : X.env.scope.names.lookup y = some .local)
    (hsw : swapsWith (.DictComp kx vx [⟨tg, iter, ifs, 0⟩] scope pos) (some (.Name y py)) spos.line X.env = pure true) (hi : PI X tg iter wi) (ok : BlkOk X.N X.env.scope scope own)
    (hg : ∀ (s : Shared) (H : Hp) (C : Addr) (cl : List (Str × Addr)) (fp : List Addr), PG (X.blk s H scope (compEnvC scope cl C X.env) fp) tg g) (ht : ∀ (s : Shared) (H : Hp) (C : Addr) (cl : List (Str × Addr)) (fp : List Addr), PTs (X.blk s H scope (compEnvC scope cl C X.env) fp) ifs tt)
    (hk : ∀ (s : Shared) (H : Hp) (C : Addr) (cl : List (Str × Addr)) (fp : List Addr), PE (X.blk s H scope (compEnvC scope cl C X.env) fp) kx tk)
    (he : ∀ (s : Shared) (H : Hp) (C : Addr) (cl : List (Str × Addr)) (fp : List Addr), PE (X.blk s H scope (compEnvC scope cl C X.env) fp) vx tv) (hs : ∀ x, foldedSetIterable iter X.env x = pure x := by intro _; rfl) :
    PS X (.Assign [.Name y py] (.DictComp kx vx [⟨tg, iter, ifs, 0⟩] scope pos) spos) (tAsg (tDc wi g tt tk tv (own.map (·.2))) (gName i)) := by
  refine ⟨fun pins s σ H D I h => ?_⟩
  rw [exec_Assign_Name_used _ _ _ _ hsw]
  refine wpAny_bind (wpAny_standAt (wpAny_bind ?_))
  show wpAny _ X.A (do let _ ← comprehension (.DictComp kx vx [⟨tg, iter, ifs, 0⟩] scope pos) scope X.env (firstIterPos [⟨tg, iter, ifs, 0⟩] pos) newDict false (eval iter X.env) (some (assign (.Name y py) X.env))) _ _ s
  have h : tDc wi g tt tk tv (own.map (·.2)) σ H (fun x H1 => gName i x σ H1 D.nx) := h
  refine wpAny_bind (thn (dc_core (Qf := fun _ s' => SP X pins D .next s') hc hN I hi ok hg ht hk he hs h fun L C s' m H' I' q hn f => ?_) fun _ s' hq => wpAny_pure (wpAny_pure hq))
  show wpAny _ _ (assign (.Name y py) X.env (.ref L)) _ _ _
  refine wpAny_assign_Name (store_ok2 (v := V.ref L) I' hN hy (.inl hyl) rfl (fun s2 I2 ⟨a, sb, ha⟩ => ?_) (.inr hyl))
  obtain ⟨f0, f1, f2, f3, f4, f5⟩ := f
  have haC : C ≠ a := by
    rcases ha with z | z
    · rw [z]; exact f1
    · exact fun e => f4 y a z e.symm
  refine ⟨m, hn.sameBut sb haC, fun h3 sb3 => ?_⟩
  exact ⟨_, H', I2.turned (t' := s2.toks) (fun b o hb e => (sb3.2 b hb).trans e) f0 f1 f3 f4 f5, q⟩
theorem sw_trueD {kx vx : Expr} {gs : List Comprehension} {scope : Scope} {pos py : Pos} {y : Str} {l : Nat} {env : Env} (hk : env.scope.kind = .function) (hy : env.scope.names.lookup y = some .local) (hl : (py.line == pos.line) = true)
    (ha : (scope.names.any fun (n, k) => n == y && (k == .local || k == .cell)) = false) : swapsWith (.DictComp kx vx gs scope pos) (some (.Name y py)) l env = pure true := by
  have ky : env.kindOf y = some .local := hy
  have hb : env.blockKind = .function := by unfold Env.blockKind; rw [hk]; rfl
  unfold swapsWith
  simp only [hb, ky, ha, Expr.pos, hl]
  rfl
end
section
variable {K : PySem.W.Frag} {σ σ1 : L2.St} {env env1 env2 : Nv} {V H V1 H1 V2 H2 : Hp} {v : L2.V} {te ta tb ti td ty tx tv : TE} {t u : TS} {f g : StF}
theorem wk_enumT {a : Addr} {xs : List L2.V} {ds : List D} (hs : SqT K V a xs) (r : RA K V xs ds) : WkOk K (IteT K a) V (enumD ds) := by
  refine ⟨xs.length, _, _, by rw [enumD_len]; exact r.len, walk_enumT, fun V1 H1 e1 e2 => Evl.ex_t (e1.trans e2) hs, ?_⟩
  rintro i d V1 H1 x H' hd e1 e2 ⟨T, z, u, rfl, hT, rfl, hz, hu⟩
  cases hz
  obtain ⟨d', h1, h2⟩ := r.getV hu
  rw [enumD_get, h1] at hd
  cases hd
  obtain ⟨b, rb⟩ := pair_new (i := i) e2 hT (R.mono e1 _ _ h2)
  exact ⟨_, b, rb⟩
theorem wk_enum {a : Addr} {xs : List L2.V} {ds : List D} (hs : SqL K V a xs) (r : RA K V xs ds) : WkOk K (Ite K a) V (enumD ds) := by
  refine ⟨xs.length, _, _, by rw [enumD_len]; exact r.len, walk_enum, fun V1 H1 e1 e2 => Evl.ex_l (e1.trans e2) hs, ?_⟩
  rintro i d V1 H1 x H' hd e1 e2 ⟨T, z, u, rfl, hT, rfl, hz, hu⟩
  cases hz
  obtain ⟨d', h1, h2⟩ := r.getV hu
  rw [enumD_get, h1] at hd
  cases hd
  obtain ⟨b, rb⟩ := pair_new (i := i) e2 hT (R.mono e1 _ _ h2)
  exact ⟨_, b, rb⟩
def iEnumU (fs : EvA) : ItF := fun env => (fs env).bind fun p => match p.1 with
  | [.val (.tuple ds)] => some (enumD ds, p.2)
  | [.val (.list ds)] => some (enumD ds, p.2)
  | _ => none
theorem sdw_enumU {t : TA} {fs : EvA} (ha : SdA K t fs) : SdW K (iOr2 (iEnum K t) (iEnumT K t)) (iEnumU fs) := by
  intro env ds env' e σ V H ok Rr q
  simp only [iEnumU, Option.bind_eq_some_iff] at e
  obtain ⟨⟨r, e1⟩, h1, h3⟩ := e
  have r2 : ∃ es, (r = [.val (.tuple es)] ∨ r = [.val (.list es)]) ∧ ds = enumD es ∧ env' = e1 := by
    split at h3
    · rename_i es hn
      cases h3
      exact ⟨es, .inl hn, rfl, rfl⟩
    · rename_i es hn
      cases h3
      exact ⟨es, .inr hn, rfl, rfl⟩
    · cases h3
  obtain ⟨es, hr, rfl, rfl⟩ := r2
  rcases hr with rfl | rfl
  · refine .inr (ha _ _ _ h1 σ V H ok _ fun vs V' H' a k => ?_)
    cases k with
    | @cons v0 _ _ _ k1 k2 =>
      cases k2
      have k1' : R K V' v0 (.tuple es) := k1
      cases k1' with
      | @tuple b zs _ w4 w5 => exact ⟨b, zs, rfl, Evl.ex_t a.ok.sub w4, q _ V' H' a (wk_enumT w4 w5)⟩
  · refine .inl (ha _ _ _ h1 σ V H ok _ fun vs V' H' a k => ?_)
    cases k with
    | @cons v0 _ _ _ k1 k2 =>
      cases k2
      have k1' : R K V' v0 (.list es) := k1
      cases k1' with
      | @list b zs _ w4 w5 => exact ⟨b, zs, rfl, Evl.ex_l a.ok.sub w4, q _ V' H' a (wk_enum w4 w5)⟩
end
section
variable {X : Cx} {k : Nat} {a b e l tg elt iter kx vx o : Expr} {es ifs : List Expr} {pos p p2 : Pos} {fa fb f g h : EvF} {fs : EvA} {x : Str} {vs : List Nat} {st : Stmt} {rest : List Stmt} {sf : StF}
theorem pi_or {w1 w2 : TI} (h1 : PI X tg e w1) (h2 : PI X tg e w2) : PI X tg e (iOr2 w1 w2) := ⟨fun pins s σ H R I q => q.elim (h1.run pins s σ H R I) (h2.run pins s σ H R I)⟩
theorem iwEnum {tpos : Pos} {elts : List Expr} {kk : Nat} (hg : Gl X "enumerate") (hm : X.mg "enumerate" = none) (ha : AD X [a] fs) (hs : starEach [a] X.env = [(false, eval a X.env)] := by rfl) : IW X (.Tuple elts kk tpos) (.Call (.Name "enumerate" p) [a] [] pos) (iEnumU fs) :=
  let ⟨_, h1, k1⟩ := ha; ⟨_, pi_or (pi_enum hg hm h1 hs) (pi_enumT hg hm h1 hs), sdw_enumU k1⟩
theorem pdDc {scope : Scope} {own : List (Str × Nat)} {it : ItF} {g : TgF} {fc : EvT} {fk fv : EvF} (hc : X.calm = true) (nd : X.N.Nodup) (hi : IW X tg iter it) (ok : BlkOk X.N X.env.scope scope own)
    (hg : ∀ (s : Shared) (H : Hp) (C : Addr) (cl : List (Str × Addr)) (fp : List Addr), GDv (X.blk s H scope (compEnvC scope cl C X.env) fp) tg g (own.map (·.2)))
    (ht : ∀ (s : Shared) (H : Hp) (C : Addr) (cl : List (Str × Addr)) (fp : List Addr), TsD (X.blk s H scope (compEnvC scope cl C X.env) fp) ifs fc)
    (hk : ∀ (s : Shared) (H : Hp) (C : Addr) (cl : List (Str × Addr)) (fp : List Addr), PD (X.blk s H scope (compEnvC scope cl C X.env) fp) kx fk)
    (hv : ∀ (s : Shared) (H : Hp) (C : Addr) (cl : List (Str × Addr)) (fp : List Addr), PD (X.blk s H scope (compEnvC scope cl C X.env) fp) vx fv) (hs : ∀ x, foldedSetIterable iter X.env x = pure x := by intro _; rfl) :
    PD X (.DictComp kx vx [⟨tg, iter, ifs, 0⟩] scope pos) (iDc it g fc fk fv (own.map (·.2))) :=
  let ⟨_, h0, k0⟩ := hi
  ⟨_, pe_dc (tk := cE X.K fk) (tv := cE X.K fv) (tt := cT X.K fc) (g := cG X.K g (own.map (·.2))) hc nd h0 ok (fun s H C cl fp => (hg s H C cl fp).canon) (fun s H C cl fp => (ht s H C cl fp).canon) (fun s H C cl fp => (hk s H C cl fp).canon) (fun s H C cl fp => (hv s H C cl fp).canon) hs, sd_dc k0 cG_sd cT_sd cE_sd cE_sd⟩
theorem stAsgDc {scope : Scope} {own : List (Str × Nat)} {it : ItF} {g : TgF} {fc : EvT} {fk fv : EvF} {py spos : Pos} (ow : Bool) (i : Nat) (hc : X.calm = true) (nd : X.N.Nodup) (hy : X.N[i]? = some x) (hyl : X.env.scope.names.lookup x = some .local)
    (hsw : swapsWith (.DictComp kx vx [⟨tg, iter, ifs, 0⟩] scope pos) (some (.Name x py)) spos.line X.env = pure true) (hi : IW X tg iter it) (ok : BlkOk X.N X.env.scope scope own)
    (hg : ∀ (s : Shared) (H : Hp) (C : Addr) (cl : List (Str × Addr)) (fp : List Addr), GDv (X.blk s H scope (compEnvC scope cl C X.env) fp) tg g (own.map (·.2)))
    (ht : ∀ (s : Shared) (H : Hp) (C : Addr) (cl : List (Str × Addr)) (fp : List Addr), TsD (X.blk s H scope (compEnvC scope cl C X.env) fp) ifs fc)
    (hk : ∀ (s : Shared) (H : Hp) (C : Addr) (cl : List (Str × Addr)) (fp : List Addr), PD (X.blk s H scope (compEnvC scope cl C X.env) fp) kx fk)
    (hv : ∀ (s : Shared) (H : Hp) (C : Addr) (cl : List (Str × Addr)) (fp : List Addr), PD (X.blk s H scope (compEnvC scope cl C X.env) fp) vx fv) (hs : ∀ x, foldedSetIterable iter X.env x = pure x := by intro _; rfl) :
    StD X (.Assign [.Name x py] (.DictComp kx vx [⟨tg, iter, ifs, 0⟩] scope pos) spos) (iAsg ow i (iDc it g fc fk fv (own.map (·.2)))) :=
  let ⟨_, h0, k0⟩ := hi
  ⟨_, ps_setDc (tk := cE X.K fk) (tv := cE X.K fv) (tt := cT X.K fc) (g := cG X.K g (own.map (·.2))) hc nd hy hyl hsw h0 ok (fun s H C cl fp => (hg s H C cl fp).canon) (fun s H C cl fp => (ht s H C cl fp).canon) (fun s H C cl fp => (hk s H C cl fp).canon) (fun s H C cl fp => (hv s H C cl fp).canon) hs, sds_asg (sd_dc k0 cG_sd cT_sd cE_sd cE_sd)⟩
end
end DL

/-! What simp evaluates bodies with. -/
namespace DL
open PySem L2
section
variable {env e : Nv} {f g fa fb fc : EvF} {fs : EvA} {c t : EvT} {s u : StF} {d d' : D} {r : Res} {i j n : Nat} {o : Option Fl} {vs : List Nat} {it : ItF} {tg : TgF}
def sqF (o : Option Fl) (g : StF) : Option Fl := match o with
  | some (.next e) => g e
  | r => r
theorem iSeq_ev : iSeq s u env = sqF (s env) u := rfl
theorem sq_next : sqF (some (.next e)) u = u e := rfl
theorem sq_ret : sqF (some (.ret r e)) u = some (.ret r e) := rfl
theorem sq_brk : sqF (some (.brk e)) u = some (.brk e) := rfl
theorem sq_cont : sqF (some (.cont e)) u = some (.cont e) := rfl
theorem sq_none : sqF none u = none := rfl
theorem sq_ite {p : Prop} [Decidable p] {a b : Option Fl} : sqF (if p then a else b) u = if p then sqF a u else sqF b u := by split <;> rfl
theorem iNext_ev : iNext env = some (.next env) := rfl
def asF (ow : Bool) (i : Nat) (o : Option (Res × Nv)) : Option Fl := match o with
  | some (.val d, e) => (setV e i (.val d)).map .next
  | some (.new d, e) => (setV e i (if ow then .own false d else .val d)).map .next
  | _ => none
theorem iAsg_ev {ow : Bool} : iAsg ow i f env = asF ow i (f env) := by
  unfold iAsg asF
  cases f env with
  | none => rfl
  | some p =>
    obtain ⟨r, e⟩ := p
    cases r with
    | val d => simp only [Option.bind_some]; cases setV e i (.val d) <;> rfl
    | new d => simp only [Option.bind_some]; cases setV e i (if ow then Sl.own false d else .val d) <;> rfl
    | own _ => rfl
theorem as_val {ow : Bool} : asF ow i (some (.val d, e)) = (setV e i (.val d)).map .next := rfl
theorem as_new_t : asF true i (some (.new d, e)) = (setV e i (.own false d)).map .next := rfl
theorem as_new_f : asF false i (some (.new d, e)) = (setV e i (.val d)).map .next := rfl
def setF (o : Option Sl) (env : Nv) (i : Nat) (s : Sl) : Option Nv := match o with
  | none => none
  | some (.own true _) => none
  | some _ => some (env.set i s)
theorem setV_ev {s : Sl} : setV env i s = setF env[i]? env i s := rfl
theorem set_no {s : Sl} : setF (some .no) env i s = some (env.set i s) := rfl
theorem set_val {s : Sl} : setF (some (.val d)) env i s = some (env.set i s) := rfl
theorem set_own {s : Sl} : setF (some (.own false d)) env i s = some (env.set i s) := rfl
def vaF (o : Option Sl) (n : Nat) (env : Nv) : Option (Res × Nv) := match o with
  | some (.val d) => some (.val d, env)
  | some (.own _ _) => some (.own n, env)
  | _ => none
theorem iVar_ev : iVar n env = vaF env[n]? n env := rfl
theorem va_val : vaF (some (.val d)) n env = some (.val d, env) := rfl
theorem va_own {p : Bool} : vaF (some (.own p d)) n env = some (.own n, env) := rfl
def loF (o : Option Sl) : Option D := match o with
  | some (.own _ d) => some d
  | _ => none
theorem look_ev : look env (.own n) = loF env[n]? := rfl
theorem lo_own {p : Bool} : loF (some (.own p d)) = some d := rfl
theorem iIfS_ev : iIfS c s u env = (c env).bind fun p => if p.1 = true then s p.2 else u p.2 := rfl
def retF (o : Option (Res × Nv)) : Option Fl := match o with
  | some (.val d, e) => some (.ret (.val d) e)
  | some (.new d, e) => some (.ret (.new d) e)
  | some (.own i, e) => match e[i]? with
    | some (.own false d) => some (.ret (.new d) (e.set i .no))
    | _ => none
  | none => none
theorem iRet_ev : iRet f env = retF (f env) := by
  unfold iRet retF
  cases f env with
  | none => rfl
  | some p =>
    obtain ⟨r, e⟩ := p
    cases r <;> rfl
theorem ret_val' : retF (some (.val d, e)) = some (.ret (.val d) e) := rfl
theorem ret_new' : retF (some (.new d, e)) = some (.ret (.new d) e) := rfl
def roF (o : Option Sl) (i : Nat) (e : Nv) : Option Fl := match o with
  | some (.own false d) => some (.ret (.new d) (e.set i .no))
  | _ => none
theorem ret_own' : retF (some (.own i, e)) = roF e[i]? i e := rfl
theorem ro_own : roF (some (.own false d)) i e = some (.ret (.new d) (e.set i .no)) := rfl
theorem iRetN_ev : iRetN env = some (.ret (.val .none) env) := rfl
theorem iDrop_ev : iDrop f env = (f env).bind fun p => some (.next p.2) := rfl
theorem iBrk_ev : iBrk env = some (.brk env) := rfl
theorem iCont_ev : iCont env = some (.cont env) := rfl
theorem iBef_ev : iBef vs s env = (wipeN env vs).bind s := rfl
theorem iAft_ev : iAft vs s env = (s env).bind (wfl vs) := rfl
theorem wfl_next : wfl vs (.next e) = (wipeN e vs).map .next := rfl
theorem wfl_cont : wfl vs (.cont e) = (wipeN e vs).map .cont := rfl
theorem wfl_brk : wfl vs (.brk e) = (wipeN e vs).map .brk := rfl
theorem wfl_ret : wfl vs (.ret r e) = some (.ret r e) := rfl
def wpF (o : Option Sl) (i : Nat) (e : Nv) : Option Nv := match o with
  | some (.own true _) => none
  | some _ => some (e.set i .no)
  | none => none
theorem wipe_nil : wipeN env [] = some env := rfl
theorem wipe_cons : wipeN env (i :: vs) = (wipeN env vs).bind fun e => wpF e[i]? i e := rfl
theorem wp_no : wpF (some .no) i e = some (e.set i .no) := rfl
theorem wp_val : wpF (some (.val d)) i e = some (e.set i .no) := rfl
theorem wp_own : wpF (some (.own false d)) i e = some (e.set i .no) := rfl
theorem iFor_ev : iFor it tg s env = (it env).bind fun p => floop tg s p.1 p.2 := rfl
theorem iNm_ev : iNm i env d = setV env i (.val d) := rfl
theorem iGT_tup {gs : TgsF} {ds : List D} : iGT gs n env (.tuple ds) = if ds.length = n then gs env ds else none := rfl
theorem iGT_list {gs : TgsF} {ds : List D} : iGT gs n env (.list ds) = if ds.length = n then gs env ds else none := rfl
theorem iGN_ev : iGN env [] = some env := rfl
theorem iGC_ev {gs : TgsF} {ds : List D} : iGC tg gs env (d :: ds) = (tg env d).bind fun e => gs e ds := rfl
theorem iAsgT_ev : iAsgT tg f env = (opd f env).bind fun p => (vis p.1).bind fun d => (tg p.2 d).bind fun e => some (.next e) := rfl
theorem iCall_ev {g : Fn} : iCall g fs env = (fs env).bind fun p => (slsOf p.2 p.1).bind fun ss => if dupFree p.1 = true then (g ss).bind fun q => if notOwnR q.1 = true then some (q.1, back p.1 q.2 p.2) else none else none := rfl
theorem sls_nil : slsOf env [] = some [] := rfl
theorem sls_val {rs : List Res} : slsOf env (.val d :: rs) = (slsOf env rs).bind fun ss => some (.val d :: ss) := rfl
theorem sls_own {rs : List Res} : slsOf env (.own i :: rs) = (look env (.own i)).bind fun d => (slsOf env rs).bind fun ss => some (.own true d :: ss) := rfl
theorem dup_nil : dupFree [] = true := rfl
theorem dup_val {rs : List Res} : dupFree (.val d :: rs) = dupFree rs := rfl
theorem dup_own {rs : List Res} : dupFree (.own i :: rs) = (!has i rs && dupFree rs) := rfl
theorem has_nil : has i [] = false := rfl
theorem has_val {rs : List Res} : has i (.val d :: rs) = has i rs := rfl
theorem has_own {rs : List Res} : has i (.own j :: rs) = (j == i || has i rs) := rfl
theorem now_val : notOwnR (.val d) = true := rfl
theorem now_new : notOwnR (.new d) = true := rfl
theorem back_ev {rs : List Res} {ss : List Sl} : back rs ss env = backGo rs ss 0 env := rfl
theorem bg_nil {rs : List Res} {ss : List Sl} : backGo rs ss i [] = [] := rfl
theorem bg_cons {rs : List Res} {ss : List Sl} {s : Sl} : backGo rs ss i (s :: env) = backS rs ss i s :: backGo rs ss (i + 1) env := rfl
theorem bs_no {rs : List Res} {ss : List Sl} : backS rs ss i .no = .no := rfl
theorem bs_val {rs : List Res} {ss : List Sl} : backS rs ss i (.val d) = .val d := rfl
def bsF (o : Option D) (p : Bool) (d : D) : Sl := match o with
  | some d' => .own p d'
  | none => .own p d
theorem bs_own {rs : List Res} {ss : List Sl} {p : Bool} : backS rs ss i (.own p d) = bsF (back1 i rs ss) p d := rfl
theorem bsf_some {p : Bool} : bsF (some d') p d = .own p d' := rfl
theorem bsf_none {p : Bool} : bsF none p d = .own p d := rfl
theorem b1_nil {ss : List Sl} : back1 i [] ss = none := by cases ss <;> rfl
theorem b1_val {rs : List Res} {s : Sl} {ss : List Sl} : back1 i (.val d :: rs) (s :: ss) = back1 i rs ss := rfl
theorem b1_own {rs : List Res} {p : Bool} {ss : List Sl} : back1 i (.own j :: rs) (.own p d :: ss) = if j = i then some d else back1 i rs ss := rfl
/-! containers of its own -/
def ap1 (o : Option Sl) (k : Option Fl) : Option Fl := match o with
  | some (.own _ (.list _)) => k
  | _ => none
def ap1E (o : Option Sl) (k : Option (Res × Nv)) : Option (Res × Nv) := match o with
  | some (.own _ (.list _)) => k
  | _ => none
theorem ap1_list {p : Bool} {ds : List D} {k : Option Fl} : ap1 (some (.own p (.list ds))) k = k := rfl
def apF (o : Option Sl) (i : Nat) (d : D) (e : Nv) : Option Fl := match o with
  | some (.own q (.list ds)) => if ds.length < 100000 then some (.next (e.set i (.own q (.list (ds ++ [d]))))) else none
  | _ => none
theorem apF_list {p : Bool} {ds : List D} : apF (some (.own p (.list ds))) i d e = if ds.length < 100000 then some (.next (e.set i (.own p (.list (ds ++ [d]))))) else none := rfl
theorem iApp_ev : iApp i f env = ap1 env[i]? ((opd f env).bind fun p => (vis p.1).bind fun d => apF p.2[i]? i d p.2) := by
  unfold iApp ap1
  rcases env[i]? with _ | (_ | _ | ⟨_, d⟩) <;> try rfl
  all_goals (cases d <;> rfl)
def exF (o : Option Sl) (i : Nat) (es : List D) (e : Nv) : Option Fl := match o with
  | some (.own q (.list ds)) => if ds.length + es.length ≤ 100000 then some (.next (e.set i (.own q (.list (ds ++ es))))) else none
  | _ => none
theorem exF_list {p : Bool} {ds es : List D} : exF (some (.own p (.list ds))) i es e = if ds.length + es.length ≤ 100000 then some (.next (e.set i (.own p (.list (ds ++ es))))) else none := rfl
def exV (r : Res) : Option (List D) := match r with
  | .new (.list es) => some es
  | .val (.tuple es) => some es
  | _ => none
theorem exV_new {es : List D} : exV (.new (.list es)) = some es := rfl
theorem exV_tup {es : List D} : exV (.val (.tuple es)) = some es := rfl
theorem iExU_ev : iExU i f env = ap1 env[i]? ((f env).bind fun p => (exV p.1).bind fun es => exF p.2[i]? i es p.2) := by
  unfold iExU ap1
  rcases env[i]? with _ | (_ | _ | ⟨_, d⟩) <;> try rfl
  cases d <;> try rfl
  dsimp only
  cases f env with
  | none => rfl
  | some p =>
    obtain ⟨r, e⟩ := p
    simp only [Option.bind_some]
    rcases r with d | d | _ <;> try rfl
    · cases d <;> rfl
    · cases d <;> rfl
def poF (o : Option Sl) (i : Nat) (e : Nv) : Option (Res × Nv) := match o with
  | some (.own q (.list ds)) => (ds[ds.length - 1]?).map fun d => (.val d, e.set i (.own q (.list ds.dropLast)))
  | _ => none
theorem iPop_ev : iPop i env = poF env[i]? i env := rfl
theorem po_snoc {p : Bool} {ds : List D} : poF (some (.own p (.list (ds ++ [d])))) i e = some (.val d, e.set i (.own p (.list ds))) := by
  unfold poF
  simp
theorem iStL_ev : iStL i g f env = (opd f env).bind fun p => (vis p.1).bind fun d => ap1 p.2[i]? ((opd g p.2).bind fun r => (isI r.1).bind fun k => (match r.2[i]? with
    | some (.own q (.list ds)) => (L2.ixN ds.length k).bind fun j => some (Fl.next (r.2.set i (.own q (.list (ds.set j d)))))
    | _ => none)) := by
  unfold iStL ap1
  cases opd f env with
  | none => rfl
  | some p =>
    simp only [Option.bind_some]
    all_goals try (
      cases vis p.1 with
      | none => rfl
      | some d =>
        simp only [Option.bind_some]
        all_goals try (rcases p.2[i]? with _ | (_ | _ | ⟨_, d⟩) <;> try rfl)
        all_goals (cases d <;> rfl))
def fzF (o : Option Sl) (i : Nat) (e : Nv) : Option Fl := match o with
  | some (.own false d) => some (.next (e.set i (.val d)))
  | some (.val _) => some (.next e)
  | _ => none
theorem iFrz_ev : iFrz i env = fzF env[i]? i env := rfl
theorem fz_own : fzF (some (.own false d)) i e = some (.next (e.set i (.val d))) := rfl
theorem fz_val : fzF (some (.val d)) i e = some (.next e) := rfl
theorem iRev_ev : iRev f env = (opd f env).bind fun p => (look p.2 p.1).bind fun d => (gRev d).bind fun z => some (z, p.2) := rfl
theorem gRev_list {ds : List D} : gRev (.list ds) = some (.new (.list ds.reverse)) := rfl
theorem gRev_tup {ds : List D} : gRev (.tuple ds) = some (.val (.tuple ds.reverse)) := rfl
/-! walks -/
theorem iSeqI_ev : iSeqI f env = (opd f env).bind fun p => (vis p.1).bind fun d => (match d with
  | .list ds => some (ds, p.2)
  | .tuple ds => some (ds, p.2)
  | _ => none) := rfl
theorem iRevI_ev : iRevI f env = (iSeqI f env).map fun p => (p.1.reverse, p.2) := rfl
theorem iEnumU_ev : iEnumU fs env = (fs env).bind fun p => (match p.1 with
  | [.val (.tuple ds)] => some (enumD ds, p.2)
  | [.val (.list ds)] => some (enumD ds, p.2)
  | _ => none) := rfl
def r1F (rs : List Res) (e : Nv) : Option (List D × Nv) := match rs with
  | [.val (.int n)] => if smR n = true then some (rngD 0 n.toNat, e) else none
  | _ => none
theorem iR1_ev : iR1 fs env = (fs env).bind fun p => r1F p.1 p.2 := rfl
theorem r1_int {k : Int} (h : smR k = true) : r1F [.val (.int k)] e = some (rngD 0 k.toNat, e) := by
  unfold r1F
  simp [h]
/-! loops over data made of a list: the slots at the head are told by a state -/
theorem fl_nil : floop tg s [] env = some (.next env) := rfl
theorem fl_cons {ds : List D} : floop tg s (d :: ds) env = (tg env d).bind fun e1 => match s e1 with
    | some (.next e2) => floop tg s ds e2
    | some (.cont e2) => floop tg s ds e2
    | some (.brk e2) => some (.next e2)
    | some (.ret r e2) => some (.ret r e2)
    | none => none := rfl
/-- one turn -/
def turn (tg : TgF) (s : StF) (env : Nv) (d : D) : Option Fl := (tg env d).bind s
theorem turn_ev : turn tg s env d = (tg env d).bind s := rfl
theorem fl_next {ds : List D} {e2 : Nv} (h : turn tg s env d = some (.next e2)) : floop tg s (d :: ds) env = floop tg s ds e2 := by
  rw [fl_cons]
  unfold turn at h
  cases q : tg env d with
  | none => rw [q] at h; cases h
  | some e1 => rw [q] at h; simp only [Option.bind_some] at h ⊢; rw [h]
theorem fl_cont {ds : List D} {e2 : Nv} (h : turn tg s env d = some (.cont e2)) : floop tg s (d :: ds) env = floop tg s ds e2 := by
  rw [fl_cons]
  unfold turn at h
  cases q : tg env d with
  | none => rw [q] at h; cases h
  | some e1 => rw [q] at h; simp only [Option.bind_some] at h ⊢; rw [h]
theorem fl_ret {ds : List D} {e2 : Nv} (h : turn tg s env d = some (.ret r e2)) : floop tg s (d :: ds) env = some (.ret r e2) := by
  rw [fl_cons]
  unfold turn at h
  cases q : tg env d with
  | none => rw [q] at h; cases h
  | some e1 => rw [q] at h; simp only [Option.bind_some] at h ⊢; rw [h]
theorem fl_brk {ds : List D} {e2 : Nv} (h : turn tg s env d = some (.brk e2)) : floop tg s (d :: ds) env = some (.next e2) := by
  rw [fl_cons]
  unfold turn at h
  cases q : tg env d with
  | none => rw [q] at h; cases h
  | some e1 => rw [q] at h; simp only [Option.bind_some] at h ⊢; rw [h]
/-- a fold: the slots are E of a state; I holds of what is left and the state -/
theorem floop_fold {α S : Type} {dn : α → D} (E : S → Nv) (step : S → α → S) (I : List α → S → Prop) (h : ∀ x xs st, I (x :: xs) st → turn tg s (E st) (dn x) = some (.next (E (step st x))) ∧ I xs (step st x)) :
    ∀ (xs : List α) (st : S), I xs st → floop tg s (xs.map dn) (E st) = some (.next (E (xs.foldl step st))) ∧ I [] (xs.foldl step st)
  | [], st, hI => ⟨rfl, hI⟩
  | x :: xs, st, hI => by
    obtain ⟨h1, h2⟩ := h x xs st hI
    rw [List.map_cons, fl_next h1, List.foldl_cons]
    exact floop_fold E step I h xs _ h2
/-- any loop that goes through, by an invariant -/
theorem floop_inv {α : Type} {dn : α → D} (I : List α → Nv → Prop) (h : ∀ x xs e, I (x :: xs) e → ∃ e2, (turn tg s e (dn x) = some (.next e2) ∨ turn tg s e (dn x) = some (.cont e2)) ∧ I xs e2) :
    ∀ (xs : List α) (e : Nv), I xs e → ∃ e2, floop tg s (xs.map dn) e = some (.next e2) ∧ I [] e2
  | [], e, hI => ⟨e, rfl, hI⟩
  | x :: xs, e, hI => by
    obtain ⟨e2, h1, h2⟩ := h x xs e hI
    obtain ⟨e3, h3, h4⟩ := floop_inv I h xs e2 h2
    refine ⟨e3, ?_, h4⟩
    rcases h1 with h1 | h1
    · rw [List.map_cons, fl_next h1, h3]
    · rw [List.map_cons, fl_cont h1, h3]
/-- a search: the slots stay as they were till it returns -/
theorem floop_find {α : Type} {dn : α → D} {E : Nv} (p : α → Bool) (rr : α → Res) (ee : α → Nv) (xs : List α) (h : ∀ x ∈ xs, turn tg s E (dn x) = if p x = true then some (.ret (rr x) (ee x)) else some (.next E)) :
    floop tg s (xs.map dn) E = match xs.find? p with
      | some x => some (.ret (rr x) (ee x))
      | none => some (.next E) := by
  induction xs with
  | nil => rfl
  | cons x xs ih =>
    have h1 := h x List.mem_cons_self
    rw [List.map_cons, List.find?_cons]
    by_cases q : p x = true
    · rw [if_pos q] at h1
      rw [fl_ret h1, q]
    · rw [if_neg q] at h1
      have q' : p x = false := by simpa using q
      rw [fl_next h1, q', ih fun y hy => h y (List.mem_cons_of_mem _ hy)]
theorem rngD_map (lo : Int) (n : Nat) : rngD lo n = (List.range n).map fun (k : Nat) => D.int (lo + (k : Int)) := rfl
/-- a range in which nothing is read -/
theorem floop_rng {E : Nat → Nv} {lo : Int} {n : Nat} (h : ∀ k, k < n → turn tg s (E k) (.int (lo + (k : Int))) = some (.next (E (k + 1)))) : floop tg s (rngD lo n) (E 0) = some (.next (E n)) := by
  have go : ∀ m k, k + m = n → floop tg s ((List.range' k m).map fun (k : Nat) => D.int (lo + (k : Int))) (E k) = some (.next (E n)) := by
    intro m
    induction m with
    | zero => intro k hk; rw [Nat.add_zero] at hk; subst hk; rfl
    | succ m ih =>
      intro k hk
      rw [List.range'_succ, List.map_cons, fl_next (h k (by omega))]
      exact ih (k + 1) (by omega)
  rw [rngD_map, List.range_eq_range']
  exact go n 0 (Nat.zero_add n)
/-- a while by a measure -/
theorem wl_false {n : Nat} (h : c env = some (false, e)) (hn : 0 < n) : wloop c s n env = some (.next e) := by
  obtain ⟨m, rfl⟩ : ∃ m, n = m + 1 := ⟨n - 1, by omega⟩
  unfold wloop
  rw [h]
  rfl
theorem wl_true {n : Nat} {e1 e2 : Nv} (h : c env = some (true, e1)) (hs : s e1 = some (.next e2)) : wloop c s (n + 1) env = wloop c s n e2 := by
  conv => lhs; unfold wloop
  rw [h]
  simp only [Option.bind_some, if_true, hs]
theorem wl_ret {n : Nat} {e1 e2 : Nv} (h : c env = some (true, e1)) (hs : s e1 = some (.ret r e2)) : wloop c s (n + 1) env = some (.ret r e2) := by
  conv => lhs; unfold wloop
  rw [h]
  simp only [Option.bind_some, if_true, hs]
theorem wl_brk {n : Nat} {e1 e2 : Nv} (h : c env = some (true, e1)) (hs : s e1 = some (.brk e2)) : wloop c s (n + 1) env = some (.next e2) := by
  conv => lhs; unfold wloop
  rw [h]
  simp only [Option.bind_some, if_true, hs]
/-! defs -/
theorem run_ret {n N : Nat} {g : StF} {sls o : List Sl} {e : Nv} (h : g (sls ++ List.replicate (N - n) .no) = some (.ret r e)) (ho : outs sls e = some o) (hr : notOwnR r = true := by rfl) (hn : sls.length = n := by rfl) (h2 : n ≤ N := by decide) (hp : parOnly sls = true := by rfl) : runDef n N g sls = some (r, o) := by
  unfold runDef
  rw [if_pos ⟨hn, h2, hp⟩, h]
  simp [hr, ho]
theorem run_next {n N : Nat} {g : StF} {sls o : List Sl} {e : Nv} (h : g (sls ++ List.replicate (N - n) .no) = some (.next e)) (ho : outs sls e = some o) (hn : sls.length = n := by rfl) (h2 : n ≤ N := by decide) (hp : parOnly sls = true := by rfl) : runDef n N g sls = some (.val .none, o) := by
  unfold runDef
  rw [if_pos ⟨hn, h2, hp⟩, h]
  simp [ho]
theorem seq_ex {W : Option Fl → Prop} (P : Nv → Prop) (h : ∃ e, s env = some (.next e) ∧ P e) (k : ∀ e, P e → W (u e)) : W (iSeq s u env) := by
  obtain ⟨e, h1, h2⟩ := h
  rw [iSeq_next h1]
  exact k e h2
theorem ncast {n : Nat} : ((no_index (OfNat.ofNat n) : Nat) : Int) = OfNat.ofNat n := rfl
theorem at0 {α : Type} {a : α} {xs : List α} : L2.atI (a :: xs) 0 = some a := atI_nat (j := 0) rfl
theorem at1 {α : Type} {a b : α} {xs : List α} : L2.atI (a :: b :: xs) 1 = some b := atI_nat (j := 1) rfl
theorem at2 {α : Type} {a b c : α} {xs : List α} : L2.atI (a :: b :: c :: xs) 2 = some c := atI_nat (j := 2) rfl
theorem ix0 {n : Nat} : L2.ixN (n + 1) 0 = some 0 := by
  unfold L2.ixN
  simp
theorem ix1 {n : Nat} : L2.ixN (n + 2) 1 = some 1 := by
  unfold L2.ixN
  simp
  omega
theorem ix2 {n : Nat} : L2.ixN (n + 3) 2 = some 2 := by
  unfold L2.ixN
  simp
  omega
end
end DL

/-! Data that equal themselves. -/
namespace Sh
open PySem L2 DL
def Py (n : Nat) (d : D) : Prop := ∃ p, toPy d = some p ∧ p.canLay0 = true ∧ p.depth ≤ n ∧ PyData.eqv p p = true
def Pys (n : Nat) (ds : List D) : Prop := ∃ ps, toPy.toPys ds = some ps ∧ PyData.canLayAll0 ps = true ∧ PyData.depthAll ps ≤ n ∧ PyData.eqvAll ps ps = true
theorem Py.none {n : Nat} : Py n .none := ⟨.none, rfl, by simp [PyData.canLay0], by simp [PyData.depth], by simp [PyData.eqv]⟩
theorem Py.int {n : Nat} {i : Int} : Py n (.int i) := ⟨.int i, rfl, by simp [PyData.canLay0], by simp [PyData.depth], by simp [PyData.eqv]⟩
theorem Py.bool {n : Nat} {b : Bool} : Py n (.bool b) := ⟨.bool b, rfl, by simp [PyData.canLay0], by simp [PyData.depth], by simp [PyData.eqv]⟩
theorem Py.str {n : Nat} {s : Str} (h : PyData.strOk s = true) : Py n (.str s) := ⟨.str s, rfl, by simp [PyData.canLay0, h], by simp [PyData.depth], by simp [PyData.eqv]⟩
theorem Pys.nil {n : Nat} : Pys n [] := ⟨[], rfl, by simp [PyData.canLayAll0], by simp [PyData.depthAll], by simp [PyData.eqvAll]⟩
theorem Pys.cons {n : Nat} {d : D} {ds : List D} (h : Py n d) (k : Pys n ds) : Pys n (d :: ds) := by
  obtain ⟨p, h1, h2, h3, h4⟩ := h
  obtain ⟨ps, k1, k2, k3, k4⟩ := k
  refine ⟨p :: ps, by simp only [toPy.toPys, h1, k1], by simp only [PyData.canLayAll0, h2, k2, Bool.and_self], ?_, by simp only [PyData.eqvAll, h4, k4, Bool.and_self]⟩
  simp only [PyData.depthAll]
  omega
theorem Py.tuple {n : Nat} {ds : List D} (k : Pys n ds) : Py (n + 1) (.tuple ds) := by
  obtain ⟨ps, k1, k2, k3, k4⟩ := k
  refine ⟨.tuple ps, by simp only [toPy, k1, Option.map_some], by simp only [PyData.canLay0, k2], ?_, by simp only [PyData.eqv, k4]⟩
  simp only [PyData.depth]
  omega
theorem Py.list {n : Nat} {ds : List D} (k : Pys n ds) : Py (n + 1) (.list ds) := by
  obtain ⟨ps, k1, k2, k3, k4⟩ := k
  refine ⟨.list ps, by simp only [toPy, k1, Option.map_some], by simp only [PyData.canLay0, k2], ?_, by simp only [PyData.eqv, k4]⟩
  simp only [PyData.depth]
  omega
theorem Py.mono {n m : Nat} {d : D} (h : Py n d) (k : n ≤ m) : Py m d := let ⟨p, h1, h2, h3, h4⟩ := h; ⟨p, h1, h2, Nat.le_trans h3 k, h4⟩
theorem Pys.mono {n m : Nat} {d : List D} (h : Pys n d) (k : n ≤ m) : Pys m d := let ⟨p, h1, h2, h3, h4⟩ := h; ⟨p, h1, h2, Nat.le_trans h3 k, h4⟩
theorem Pys.of {n : Nat} : ∀ {ds : List D}, (∀ d ∈ ds, Py n d) → Pys n ds
  | [], _ => .nil
  | d :: ds, h => .cons (h d List.mem_cons_self) (Pys.of fun x hx => h x (List.mem_cons_of_mem _ hx))
theorem Py.shaped {n : Nat} {d : D} (h : Py n d) (hn : n ≤ 64) : ∃ p, toPy d = some p ∧ SeqAt.shaped p = true ∧ PyData.eqv p p = true := by
  obtain ⟨p, h1, h2, h3, h4⟩ := h
  refine ⟨p, h1, ?_, h4⟩
  unfold SeqAt.shaped
  rw [h2]
  have : p.depth ≤ 64 := Nat.le_trans h3 hn
  simp [this]
theorem Py.eqD {n : Nat} {d : D} (h : Py n d) (hn : n ≤ 64) : DL.eqD d d = some true := by
  obtain ⟨p, h1, h2, h3⟩ := h.shaped hn
  have k : (toPy d).bind (fun p => (toPy d).bind fun q => if SeqAt.shaped p = true ∧ SeqAt.shaped q = true then some (PyData.eqv p q) else Option.none) = some true := by
    rw [h1, Option.bind_some, Option.bind_some, if_pos ⟨h2, h2⟩, h3]
  cases d with
  | int i => simp [DL.eqD]
  | str i => simp [DL.eqD]
  | bool i => simp [DL.eqD]
  | _ => exact k
theorem Py.gEq {n : Nat} {d : D} (h : Py n d) (hn : n ≤ 64) : DL.gEq d d = some (.val (.bool true)) := by unfold DL.gEq; rw [h.eqD hn]; rfl
theorem Py.gNe {n : Nat} {d : D} (h : Py n d) (hn : n ≤ 64) : DL.gNe d d = some (.val (.bool false)) := by unfold DL.gNe; rw [h.eqD hn]; rfl
end Sh

namespace LK65
open PySem PySem.Spec PyProof.Rows L2 DL
def top (i : Nat) : Stmt := PySem.Challenge.pw_lastproof_k65_axioms_of_questions.main.body.getD i (.Pass ⟨0, 0, 0, 0⟩)
/-! ### answer -/
theorem sc_answer : FnScope ["a"] ["a"] (defScope (top 2)) := ⟨rfl, rfl, rfl, by decide +kernel, rfl, by decide +kernel, by decide +kernel⟩
def m_answer  : StF :=
    (iRet (iTup (argC (iCon (.int 5)) (argC (iVar 0) (argC (iCon (.int 0)) argN)))))
def f_answer  : Fn := runDef 1 1 (m_answer )
/-! ### quantified -/
theorem sc_quantified : FnScope ["word", "bound", "formula", "around", "variable"] ["word", "bound", "formula"] (defScope (top 4)) := ⟨rfl, rfl, rfl, by decide +kernel, rfl, by decide +kernel, by decide +kernel⟩
def b1_quantified  : StF :=
    (iAft [4] (iAsg false 3 (iTup (argC (iVar 0) (argC (iVar 4) (argC (iVar 3) argN))))))
def m_quantified  : StF :=
    (iSeq (iAsg false 3 (iVar 2))
    (iSeq (iAft [4] (iBef [4] (iFor (iSeqI (iRev (iVar 1))) (iNm 4)
      (b1_quantified))))
    (iRet (iVar 3))))
def f_quantified  : Fn := runDef 3 5 (m_quantified )
/-! ### sought -/
theorem sc_sought : FnScope ["formula", "bound", "rest"] ["formula"] (defScope (top 6)) := ⟨rfl, rfl, rfl, by decide +kernel, rfl, by decide +kernel, by decide +kernel⟩
def b1_sought  : StF :=
    (iSeq (iApp 1 (iBin gIx (iVar 2) (iCon (.int 1))))
    (iAsg false 2 (iBin gIx (iVar 2) (iCon (.int 2)))))
def m_sought  : StF :=
    (iSeq (iAsg true 1 (iLst argN))
    (iSeq (iAsg false 2 (iVar 0))
    (iSeq (wloop (iTst (iBin gEq (iBin gIx (iVar 2) (iCon (.int 0))) (iCon (.str "some"))))
      (b1_sought) 1000000)
    (iSeq (iFrz 1) (iRet (iTup (argC (iVar 1) (argC (iVar 2) argN))))))))
def f_sought  : Fn := runDef 1 3 (m_sought )
/-! ### question_axiom -/
theorem sc_question_axiom : FnScope ["number", "formula", "bound", "rest", "atom", "found"] ["number", "formula"] (defScope (top 7)) := ⟨rfl, rfl, rfl, by decide +kernel, rfl, by decide +kernel, by decide +kernel⟩
def m_question_axiom (g_quantified : Fn) (g_answer : Fn) (g_sought : Fn) : StF :=
    (iSeq (iAsgT (iGT (iGC (iNm 2) (iGC (iNm 3) iGN)) 2) (iCall g_sought (argC (iVar 1) argN)))
    (iSeq (iAsg false 4 (iTup (argC (iCon (.str "atom")) (argC (iTup (argC (iCall g_answer (argC (iVar 0) argN)) (argC (iCB (c1 gTuple) (argC (iVar 2) argN)) argN))) argN))))
    (iSeq (iAsg false 5 (iCall g_quantified (argC (iCon (.str "all")) (argC (iVar 2) (argC (iTup (argC (iCon (.str "implies")) (argC (iVar 3) (argC (iVar 4) argN)))) argN)))))
    (iRet (iTup (argC (iCon (.str "and")) (argC (iVar 5) (argC (iCall g_quantified (argC (iCon (.str "all")) (argC (iVar 2) (argC (iTup (argC (iCon (.str "not")) (argC (iVar 4) argN))) argN)))) argN))))))))
def f_question_axiom (g_quantified : Fn) (g_answer : Fn) (g_sought : Fn) : Fn := runDef 2 6 (m_question_axiom g_quantified g_answer g_sought)
/-! ### _law_rows -/
theorem sc__law_rows : FnScope ["script", "count", "rows", "k", "cell"] ["script", "count"] (defScope (top 9)) := ⟨rfl, rfl, rfl, by decide +kernel, rfl, by decide +kernel, by decide +kernel⟩
def b1__law_rows  : StF :=
    (iAft [3, 4] (iSeq (iAsg false 4 (iCon (.int 0)))
    (iSeq (iIfS (iTst (iBin gGt (iCB (c1 gLen) (argC (iVar 0) argN)) (iCon (.int 0)))) (iAsg false 4 (iCB (c1 gInt) (argC (iBin gIx (iVar 0) (iBin gMod (iCB (c1 gInt) (argC (iVar 3) argN)) (iCB (c1 gLen) (argC (iVar 0) argN)))) argN))) iNext)
    (iSeq (iIfS (iTst (iBin gLt (iVar 4) (iCon (.int 0)))) (iAsg false 4 (iBin DL.gSub (iCon (.int 1)) (iBin gMulL (iCon (.int 2)) (iVar 4)))) iNext)
    (iSeq (iIfS (iOrT (iTst (iBin gGe (iVar 3) (iCB (c1 gLen) (argC (iVar 0) argN)))) (iTst (iBin gLt (iVar 4) (iCon (.int 1000000000))))) (iSeq (iAsg false 4 (iBin gMod (iCB (c1 gInt) (argC (iBin gMulR (iBin gAdd (iBin gAdd (iVar 4) (iBin gMulL (iCon (.int 977)) (iVar 3))) (iCon (.int 5))) (iCon (.int 69621))) argN)) (iCon (.int 2147483647))))
    (iAsg false 4 (iBin gMod (iCB (c1 gInt) (argC (iBin gMulR (iBin gAdd (iBin gAdd (iVar 4) (iBin gMulL (iCon (.int 31)) (iVar 3))) (iCon (.int 11))) (iCon (.int 1099511628211))) argN)) (iCon (.int 18446744073709551557))))) iNext)
    (iApp 2 (iVar 4)))))))
def m__law_rows  : StF :=
    (iSeq (iAsg true 2 (iLst argN))
    (iSeq (iAft [3, 4] (iBef [3, 4] (iFor (iR1 (argC (iVar 1) argN)) (iNm 3)
      (b1__law_rows))))
    (iRet (iVar 2))))
def f__law_rows  : Fn := runDef 2 5 (m__law_rows )
/-! ### _law_digit -/
theorem sc__law_digit : FnScope ["state", "many", "digit"] ["state", "many"] (defScope (top 10)) := ⟨rfl, rfl, rfl, by decide +kernel, rfl, by decide +kernel, by decide +kernel⟩
def m__law_digit  : StF :=
    (iSeq (iIfS (iTst (iBin gLt (iBin gIx (iVar 0) (iCon (.int 0))) (iVar 1))) (iSeq (iStL 0 (iCon (.int 2)) (iBin gAdd (iBin gIx (iVar 0) (iCon (.int 2))) (iCon (.int 1))))
    (iStL 0 (iCon (.int 0)) (iBin gAdd (iBin gIx (iVar 0) (iCon (.int 0))) (iBin gIx (iBin gIx (iVar 0) (iCon (.int 1))) (iBin gMod (iCB (c1 gInt) (argC (iBin gIx (iVar 0) (iCon (.int 2))) argN)) (iCB (c1 gLen) (argC (iBin gIx (iVar 0) (iCon (.int 1))) argN))))))) iNext)
    (iSeq (iAsg false 2 (iBin gMod (iCB (c1 gInt) (argC (iBin gIx (iVar 0) (iCon (.int 0))) argN)) (iVar 1)))
    (iSeq (iStL 0 (iCon (.int 0)) (iBin gDiv (iBin gIx (iVar 0) (iCon (.int 0))) (iVar 1)))
    (iRet (iVar 2)))))
def f__law_digit  : Fn := runDef 2 3 (m__law_digit )
/-! ### _law_state -/
theorem sc__law_state : FnScope ["script", "rows"] ["script"] (defScope (top 11)) := ⟨rfl, rfl, rfl, by decide +kernel, rfl, by decide +kernel, by decide +kernel⟩
def m__law_state (g__law_rows : Fn) : StF :=
    (iSeq (iAsg false 1 (iCall g__law_rows (argC (iVar 0) (argC (iCon (.int 64)) argN))))
    (iRet (iLst (argC (iBin gIx (iVar 1) (iCon (.int 0))) (argC (iVar 1) (argC (iCon (.int 0)) argN))))))
def f__law_state (g__law_rows : Fn) : Fn := runDef 1 2 (m__law_state g__law_rows)
/-! ### _law_tree_term -/
theorem sc__law_tree_term : FnScope ["state", "depth", "bound", "kind"] ["state", "depth", "bound"] (defScope (top 12)) := ⟨rfl, rfl, rfl, by decide +kernel, rfl, by decide +kernel, by decide +kernel⟩
def m__law_tree_term (g__law_digit : Fn) (g__law_tree_term : Fn) : StF :=
    (iSeq (iAsg false 3 (iCall g__law_digit (argC (iVar 0) (argC (iCon (.int 4)) argN))))
    (iSeq (iIfS (iAndT (iTst (iBin gLt (iVar 3) (iCon (.int 2)))) (iTst (iBin gGt (iVar 2) (iCon (.int 0))))) (iRet (iCall g__law_digit (argC (iVar 0) (argC (iVar 2) argN)))) iNext)
    (iSeq (iIfS (iAndT (iTst (iBin gEq (iVar 3) (iCon (.int 3)))) (iTst (iBin gGt (iVar 1) (iCon (.int 0))))) (iRet (iTup (argC (iTup (argC (iCon (.int 2)) (argC (iCon (.int 2)) (argC (iCon (.int 0)) argN)))) (argC (iTup (argC (iCall g__law_tree_term (argC (iVar 0) (argC (iBin DL.gSub (iVar 1) (iCon (.int 1))) (argC (iVar 2) argN)))) argN)) argN)))) iNext)
    (iRet (iTup (argC (iTup (argC (iCon (.int 2)) (argC (iCall g__law_digit (argC (iVar 0) (argC (iCon (.int 2)) argN))) (argC (iCon (.int 0)) argN)))) (argC (iTup argN) argN)))))))
def f__law_tree_term (g__law_digit : Fn) (g__law_tree_term : Fn) : Fn := runDef 3 4 (m__law_tree_term g__law_digit g__law_tree_term)
/-! ### _law_tree -/
theorem sc__law_tree : FnScope ["state", "depth", "bound", "kind", "word", "atom"] ["state", "depth", "bound"] (defScope (top 13)) := ⟨rfl, rfl, rfl, by decide +kernel, rfl, by decide +kernel, by decide +kernel⟩
def m__law_tree (g__law_tree : Fn) (g__law_digit : Fn) (g__law_tree_term : Fn) : StF :=
    (iSeq (iAsg false 3 (iCall g__law_digit (argC (iVar 0) (argC (iCon (.int 9)) argN))))
    (iSeq (iAft [5] (iIfS (iOrT (iTst (iBin gEq (iVar 1) (iCon (.int 0)))) (iTst (iBin gLt (iVar 3) (iCon (.int 3))))) (iSeq (iAsg false 5 (iCall g__law_digit (argC (iVar 0) (argC (iCon (.int 4)) argN))))
    (iSeq (iIfS (iTst (iBin gEq (iVar 5) (iCon (.int 0)))) (iRet (iTup (argC (iCon (.str "atom")) (argC (iTup (argC (iTup (argC (iCon (.int 1)) (argC (iCon (.int 4)) (argC (iCon (.int 0)) argN)))) (argC (iTup argN) argN))) argN)))) iNext)
    (iSeq (iIfS (iTst (iBin gEq (iVar 5) (iCon (.int 1)))) (iRet (iTup (argC (iCon (.str "equal")) (argC (iCall g__law_tree_term (argC (iVar 0) (argC (iCon (.int 1)) (argC (iVar 2) argN)))) (argC (iCall g__law_tree_term (argC (iVar 0) (argC (iCon (.int 1)) (argC (iVar 2) argN)))) argN))))) iNext)
    (iRet (iTup (argC (iCon (.str "atom")) (argC (iTup (argC (iTup (argC (iCon (.int 1)) (argC (iCon (.int 5)) (argC (iCon (.int 0)) argN)))) (argC (iTup (argC (iCall g__law_tree_term (argC (iVar 0) (argC (iCon (.int 1)) (argC (iVar 2) argN)))) argN)) argN))) argN))))))) iNext))
    (iSeq (iIfS (iTst (iBin gEq (iVar 3) (iCon (.int 3)))) (iRet (iTup (argC (iCon (.str "not")) (argC (iCall g__law_tree (argC (iVar 0) (argC (iBin DL.gSub (iVar 1) (iCon (.int 1))) (argC (iVar 2) argN)))) argN)))) iNext)
    (iSeq (iIfS (iTst (iBin gLt (iVar 3) (iCon (.int 6)))) (iRet (iTup (argC (iBin gIx (iTup (argC (iCon (.str "all")) (argC (iCon (.str "some")) argN))) (iCall g__law_digit (argC (iVar 0) (argC (iCon (.int 2)) argN)))) (argC (iVar 2) (argC (iCall g__law_tree (argC (iVar 0) (argC (iBin DL.gSub (iVar 1) (iCon (.int 1))) (argC (iBin gAdd (iVar 2) (iCon (.int 1))) argN)))) argN))))) iNext)
    (iSeq (iAsg false 4 (iBin gIx (iTup (argC (iCon (.str "and")) (argC (iCon (.str "or")) (argC (iCon (.str "implies")) (argC (iCon (.str "iff")) argN))))) (iCall g__law_digit (argC (iVar 0) (argC (iCon (.int 4)) argN)))))
    (iRet (iTup (argC (iVar 4) (argC (iCall g__law_tree (argC (iVar 0) (argC (iBin DL.gSub (iVar 1) (iCon (.int 1))) (argC (iVar 2) argN)))) (argC (iCall g__law_tree (argC (iVar 0) (argC (iBin DL.gSub (iVar 1) (iCon (.int 1))) (argC (iVar 2) argN)))) argN))))))))))
def f__law_tree (g__law_tree : Fn) (g__law_digit : Fn) (g__law_tree_term : Fn) : Fn := runDef 3 6 (m__law_tree g__law_tree g__law_digit g__law_tree_term)
/-! ### _law_bound -/
theorem sc__law_bound : FnScope ["variables", "formula", "variable"] ["variables", "formula"] (defScope (top 14)) := ⟨rfl, rfl, rfl, by decide +kernel, rfl, by decide +kernel, by decide +kernel⟩
def b1__law_bound  : StF :=
    (iAft [2] (iAsg false 1 (iTup (argC (iCon (.str "all")) (argC (iVar 2) (argC (iVar 1) argN))))))
def m__law_bound  : StF :=
    (iSeq (iAft [2] (iBef [2] (iFor (iRevI (iVar 0)) (iNm 2)
      (b1__law_bound))))
    (iRet (iVar 1)))
def f__law_bound  : Fn := runDef 2 3 (m__law_bound )
/-! ### law -/
theorem sc_law : FnScope ["script", "state", "variables", "rest", "k", "formula", "variable", "actual", "number", "atom", "due"] ["script"] (defScope (top 15)) := ⟨rfl, rfl, rfl, by decide +kernel, rfl, by decide +kernel, by decide +kernel⟩
def b1_law (g_question_axiom : Fn) (g__law_bound : Fn) (g_sought : Fn) (g__law_tree : Fn) (g__law_digit : Fn) (g__law_state : Fn) : StF :=
    (iAft [6] (iAsg false 5 (iTup (argC (iCon (.str "some")) (argC (iVar 6) (argC (iVar 5) argN))))))
def b2_law (g_question_axiom : Fn) (g__law_bound : Fn) (g_sought : Fn) (g__law_tree : Fn) (g__law_digit : Fn) (g__law_state : Fn) : StF :=
    (iAft [4] (iIfS (iTst (iBin gEq (iBin gIx (iVar 3) (iCon (.int 0))) (iCon (.str "some")))) (iAsg false 3 (iTup (argC (iCon (.str "not")) (argC (iVar 3) argN)))) iNext))
def m_law (g_question_axiom : Fn) (g__law_bound : Fn) (g_sought : Fn) (g__law_tree : Fn) (g__law_digit : Fn) (g__law_state : Fn) : StF :=
    (iSeq (iAsg true 1 (iCall g__law_state (argC (iVar 0) argN)))
    (iSeq (iAsg false 2 (iLc (iR1 (argC (iCall g__law_digit (argC (iVar 1) (argC (iCon (.int 5)) argN))) argN)) (iNm 4) iYes (iCall g__law_digit (argC (iVar 1) (argC (iCon (.int 5)) argN))) [4]))
    (iSeq (iAsg false 3 (iCall g__law_tree (argC (iVar 1) (argC (iCon (.int 2)) (argC (iCon (.int 5)) argN)))))
    (iSeq (iAft [4] (iBef [4] (iFor (iR1 (argC (iCon (.int 5)) argN)) (iNm 4)
      (b2_law g_question_axiom g__law_bound g_sought g__law_tree g__law_digit g__law_state))))
    (iSeq (iAsg false 5 (iVar 3))
    (iSeq (iAft [6] (iBef [6] (iFor (iRevI (iVar 2)) (iNm 6)
      (b1_law g_question_axiom g__law_bound g_sought g__law_tree g__law_digit g__law_state))))
    (iSeq (iAsg false 7 (iCall g_sought (argC (iVar 5) argN)))
    (iSeq (iIfS (iOrT (iNotT (iTru (iIsi "tuple" (iVar 7)))) (iTst (iBin gNe (iVar 7) (iTup (argC (iVar 2) (argC (iVar 3) argN)))))) (iRet (iCon (.bool false))) iNext)
    (iSeq (iAsg false 8 (iBin gMod (iCB (c1 gInt) (argC (iBin gIx (iBin gIx (iVar 1) (iCon (.int 1))) (iCon (.int 0))) argN)) (iCon (.int 1000000000000000000))))
    (iSeq (iAsg false 9 (iTup (argC (iCon (.str "atom")) (argC (iTup (argC (iTup (argC (iCon (.int 5)) (argC (iVar 8) (argC (iCon (.int 0)) argN)))) (argC (iCB (c1 gTuple) (argC (iVar 2) argN)) argN))) argN))))
    (iSeq (iAsg false 10 (iTup (argC (iCon (.str "and")) (argC (iCall g__law_bound (argC (iVar 2) (argC (iTup (argC (iCon (.str "implies")) (argC (iVar 3) (argC (iVar 9) argN)))) argN))) (argC (iCall g__law_bound (argC (iVar 2) (argC (iTup (argC (iCon (.str "not")) (argC (iVar 9) argN))) argN))) argN)))))
    (iRet (iBin gEq (iCall g_question_axiom (argC (iVar 8) (argC (iVar 5) argN))) (iVar 10))))))))))))))
def f_law (g_question_axiom : Fn) (g__law_bound : Fn) (g_sought : Fn) (g__law_tree : Fn) (g__law_digit : Fn) (g__law_state : Fn) : Fn := runDef 1 11 (m_law g_question_axiom g__law_bound g_sought g__law_tree g__law_digit g__law_state)
def F_answer : Fn := f_answer 
def F_quantified : Fn := f_quantified 
def F_sought : Fn := f_sought 
def F_question_axiom : Fn := f_question_axiom F_quantified F_answer F_sought
def F__law_rows : Fn := f__law_rows 
def F__law_digit : Fn := f__law_digit 
def F__law_state : Fn := f__law_state F__law_rows
def it__law_tree_term : Nat → Fn
  | 0 => fun _ => none
  | n + 1 => f__law_tree_term F__law_digit (it__law_tree_term n)
def F__law_tree_term : Fn := it__law_tree_term 12
def it__law_tree : Nat → Fn
  | 0 => fun _ => none
  | n + 1 => f__law_tree (it__law_tree n) F__law_digit F__law_tree_term
def F__law_tree : Fn := it__law_tree 12
def F__law_bound : Fn := f__law_bound 
def F_law : Fn := f_law F_question_axiom F__law_bound F_sought F__law_tree F__law_digit F__law_state
open PySem L2 DL
open Sh (Py Pys)
theorem rows_at {rs : List Int} (hr : rs.length = 64) (i : Int) : ∃ v, L2.atI (rs.map D.int) (i % 64) = some (.int v) := by
  have h0 : 0 ≤ i % 64 := by omega
  have h1 : i % 64 < 64 := by omega
  obtain ⟨k, hk⟩ : ∃ k : Nat, i % 64 = (k : Int) := ⟨(i % 64).toNat, by omega⟩
  have hk2 : k < rs.length := by omega
  refine ⟨rs[k], ?_⟩
  rw [hk, atI_nat (v := .int rs[k])]
  rw [List.getElem?_map, List.getElem?_eq_getElem hk2]
  rfl
abbrev St (a b : Int) (rs : List Int) : D := .list [.int a, .list (rs.map .int), .int b]
theorem digit_eq {a b m : Int} {rs : List Int} (hm : 0 < m) (hm2 : m < 18446744073709551616) (hr : rs.length = 64) : ∃ d a' b', F__law_digit [.own true (St a b rs), .val (.int m)] = some (.val (.int d), [.own true (St a' b' rs), .val (.int m)]) ∧ 0 ≤ d ∧ d < m := by
  by_cases h : a < m
  · obtain ⟨v, hv⟩ := rows_at hr (b + 1)
    have e := @rfl _ (m__law_digit [.own true (St a b rs), .val (.int m), .no])
    conv at e => rhs; simp only [m__law_digit, iSeq_ev, sq_next, sq_ret, sq_brk, sq_cont, iNext_ev, iAsg_ev, as_val, as_new_t, as_new_f, setV_ev, set_no, set_val, set_own, iVar_ev, va_val, va_own, look_ev, lo_own, look_val, look_new, vis_val, vis_new, pub_val, pub_new, pub_own, opd_ap, iCon_ap, iBin_ap, iUn_ap, argN_ap, argC_ap, looks_nil, looks_cons, viss_nil, viss_cons, iCB_ap, iTup_ap, iLst_ap, isB_ap, isI_ap, iTst_ap, iTru_ap, iNotT_ap, iAndT_ap, iOrT_ap, iAnd_ap, iOr_ap, iNot_ap, iIf_ap, iSl_ap, iNoP_ap, iPart_ap, iIsi_ap, iIfS_ev, iRet_ev, ret_val', ret_new', ret_own', ro_own, iRetN_ev, iDrop_ev, iBrk_ev, iCont_ev, iBef_ev, iAft_ev, wfl_next, wfl_cont, wfl_brk, wfl_ret, wipe_nil, wipe_cons, wp_no, wp_val, wp_own, iNm_ev, iGT_tup, iGT_list, iGN_ev, iGC_ev, iAsgT_ev, iCall_ev, sls_nil, sls_val, sls_own, dup_nil, dup_val, dup_own, has_nil, has_val, has_own, now_val, now_new, back_ev, bg_nil, bg_cons, bs_no, bs_val, bs_own, bsf_some, bsf_none, b1_nil, b1_val, b1_own, iApp_ev, ap1_list, apF_list, iExU_ev, exF_list, exV_new, exV_tup, iPop_ev, po_snoc, iStL_ev, iFrz_ev, fz_own, fz_val, iRev_ev, gRev_list, gRev_tup, iSeqI_ev, iRevI_ev, iEnumU_ev, iR1_ev, turn_ev, at0, at1, at2, ix0, ix1, ix2, gAdd_int, gAdd_str, gAdd_tup, gSub_int, gMul_int, gMulR_int, gMulL_int, gDiv_int, gMod_int, gPow_int, gNeg_int, gLt_int, gLe_int, gGt_int, gGe_int, gEq_int, gNe_int, gEq_str, gNe_str, gEq_bool, gNe_bool, gIs_ap, gIsN_ap, isNone_none, isNone_int, isNone_tup, isNone_str, gIx_list, gIx_tup, gSl_tup, gSl_list, c1_ap, gLen_list, gLen_tup, gInt_int, gList_list, gList_tup, gTuple_list, gTuple_tup, truD_none, truD_bool, truD_int, truD_list, truD_tup, isi_int_int, isi_int_tup, isi_bool_bool, isi_tup_tup, isi_list_list, isi_bool_int, Option.bind_some, Option.map_some, List.getElem?_cons_zero, List.getElem?_cons_succ, List.set_cons_zero, List.set_cons_succ, List.length_cons, List.length_nil, if_true, reduceIte, decide_true, decide_false, Bool.true_and, Bool.and_true, Bool.not_true, Bool.not_false, Bool.false_eq_true, Bool.not_eq_true, decide_eq_true_eq, Nat.reduceAdd, Nat.reduceLeDiff, Nat.reduceEqDiff, Nat.reduceSub, Nat.reduceMul, Int.reduceLT, Int.reduceLE, Int.reduceEq, Int.reduceAdd, Int.reduceSub, Int.reduceMul, Int.reduceNeg, Int.reduceToNat, Int.reducePow, and_self, eq_self, and_true, true_and, Nat.reduceBEq, ncast, DL.sm, List.length_map, h, List.length_map, hr, hv, hm, hm2, List.length_set]
    exact ⟨_, _, _, run_ret (n := 2) (N := 3) (sls := [.own true (St a b rs), .val (.int m)]) e rfl, Int.emod_nonneg _ (by omega), Int.emod_lt_of_pos _ hm⟩
  · have e := @rfl _ (m__law_digit [.own true (St a b rs), .val (.int m), .no])
    conv at e => rhs; simp only [m__law_digit, iSeq_ev, sq_next, sq_ret, sq_brk, sq_cont, iNext_ev, iAsg_ev, as_val, as_new_t, as_new_f, setV_ev, set_no, set_val, set_own, iVar_ev, va_val, va_own, look_ev, lo_own, look_val, look_new, vis_val, vis_new, pub_val, pub_new, pub_own, opd_ap, iCon_ap, iBin_ap, iUn_ap, argN_ap, argC_ap, looks_nil, looks_cons, viss_nil, viss_cons, iCB_ap, iTup_ap, iLst_ap, isB_ap, isI_ap, iTst_ap, iTru_ap, iNotT_ap, iAndT_ap, iOrT_ap, iAnd_ap, iOr_ap, iNot_ap, iIf_ap, iSl_ap, iNoP_ap, iPart_ap, iIsi_ap, iIfS_ev, iRet_ev, ret_val', ret_new', ret_own', ro_own, iRetN_ev, iDrop_ev, iBrk_ev, iCont_ev, iBef_ev, iAft_ev, wfl_next, wfl_cont, wfl_brk, wfl_ret, wipe_nil, wipe_cons, wp_no, wp_val, wp_own, iNm_ev, iGT_tup, iGT_list, iGN_ev, iGC_ev, iAsgT_ev, iCall_ev, sls_nil, sls_val, sls_own, dup_nil, dup_val, dup_own, has_nil, has_val, has_own, now_val, now_new, back_ev, bg_nil, bg_cons, bs_no, bs_val, bs_own, bsf_some, bsf_none, b1_nil, b1_val, b1_own, iApp_ev, ap1_list, apF_list, iExU_ev, exF_list, exV_new, exV_tup, iPop_ev, po_snoc, iStL_ev, iFrz_ev, fz_own, fz_val, iRev_ev, gRev_list, gRev_tup, iSeqI_ev, iRevI_ev, iEnumU_ev, iR1_ev, turn_ev, at0, at1, at2, ix0, ix1, ix2, gAdd_int, gAdd_str, gAdd_tup, gSub_int, gMul_int, gMulR_int, gMulL_int, gDiv_int, gMod_int, gPow_int, gNeg_int, gLt_int, gLe_int, gGt_int, gGe_int, gEq_int, gNe_int, gEq_str, gNe_str, gEq_bool, gNe_bool, gIs_ap, gIsN_ap, isNone_none, isNone_int, isNone_tup, isNone_str, gIx_list, gIx_tup, gSl_tup, gSl_list, c1_ap, gLen_list, gLen_tup, gInt_int, gList_list, gList_tup, gTuple_list, gTuple_tup, truD_none, truD_bool, truD_int, truD_list, truD_tup, isi_int_int, isi_int_tup, isi_bool_bool, isi_tup_tup, isi_list_list, isi_bool_int, Option.bind_some, Option.map_some, List.getElem?_cons_zero, List.getElem?_cons_succ, List.set_cons_zero, List.set_cons_succ, List.length_cons, List.length_nil, if_true, reduceIte, decide_true, decide_false, Bool.true_and, Bool.and_true, Bool.not_true, Bool.not_false, Bool.false_eq_true, Bool.not_eq_true, decide_eq_true_eq, Nat.reduceAdd, Nat.reduceLeDiff, Nat.reduceEqDiff, Nat.reduceSub, Nat.reduceMul, Int.reduceLT, Int.reduceLE, Int.reduceEq, Int.reduceAdd, Int.reduceSub, Int.reduceMul, Int.reduceNeg, Int.reduceToNat, Int.reducePow, and_self, eq_self, and_true, true_and, Nat.reduceBEq, ncast, DL.sm, List.length_map, h, hm, hm2, List.length_set]
    exact ⟨_, _, _, run_ret (n := 2) (N := 3) (sls := [.own true (St a b rs), .val (.int m)]) e rfl, Int.emod_nonneg _ (by omega), Int.emod_lt_of_pos _ hm⟩
abbrev scr (ns : List Int) : D := .list (ns.map .int)
abbrev RE (ns : List Int) (rs : List Int) : Nv := [.val (scr ns), .val (.int 64), .own false (.list (rs.map .int)), .no, .no]
theorem rows_turn (ns rs : List Int) (k : Nat) (hl : rs.length < 64) : ∃ c, turn (iNm 3) b1__law_rows (RE ns rs) (.int (0 + (k : Int))) = some (.next (RE ns (rs ++ [c]))) := by
  have hl2 : rs.length < 100000 := by omega
  have fin : ∀ c, turn (iNm 3) b1__law_rows (RE ns rs) (.int (0 + (k : Int))) = some (.next [.val (scr ns), .val (.int 64), .own false (.list (rs.map .int ++ [.int c])), .no, .no]) → ∃ c, turn (iNm 3) b1__law_rows (RE ns rs) (.int (0 + (k : Int))) = some (.next (RE ns (rs ++ [c]))) := fun c h => ⟨c, by rw [h, RE, List.map_append]; rfl⟩
  have e := @rfl _ (turn (iNm 3) b1__law_rows (RE ns rs) (.int (0 + (k : Int))))
  by_cases h1 : (0 : Int) < (ns.length : Int)
  · have hv : ∃ v, L2.atI (ns.map D.int) ((0 + (k : Int)) % (ns.length : Int)) = some (.int v) := by
      have q0 : 0 ≤ (0 + (k : Int)) % (ns.length : Int) := Int.emod_nonneg _ (by omega)
      have q1 := Int.emod_lt_of_pos (0 + (k : Int)) h1
      obtain ⟨j, hj⟩ : ∃ j : Nat, (0 + (k : Int)) % (ns.length : Int) = (j : Int) := ⟨((0 + (k : Int)) % (ns.length : Int)).toNat, by omega⟩
      have hj2 : j < ns.length := by omega
      refine ⟨ns[j], ?_⟩
      rw [hj, atI_nat (v := .int ns[j])]
      rw [List.getElem?_map, List.getElem?_eq_getElem hj2]
      rfl
    obtain ⟨v, hv⟩ := hv
    by_cases h2 : v < 0 <;> by_cases h3 : (ns.length : Int) ≤ 0 + (k : Int)
    · conv at e => rhs; simp only [b1__law_rows, iSeq_ev, sq_next, sq_ret, sq_brk, sq_cont, iNext_ev, iAsg_ev, as_val, as_new_t, as_new_f, setV_ev, set_no, set_val, set_own, iVar_ev, va_val, va_own, look_ev, lo_own, look_val, look_new, vis_val, vis_new, pub_val, pub_new, pub_own, opd_ap, iCon_ap, iBin_ap, iUn_ap, argN_ap, argC_ap, looks_nil, looks_cons, viss_nil, viss_cons, iCB_ap, iTup_ap, iLst_ap, isB_ap, isI_ap, iTst_ap, iTru_ap, iNotT_ap, iAndT_ap, iOrT_ap, iAnd_ap, iOr_ap, iNot_ap, iIf_ap, iSl_ap, iNoP_ap, iPart_ap, iIsi_ap, iIfS_ev, iRet_ev, ret_val', ret_new', ret_own', ro_own, iRetN_ev, iDrop_ev, iBrk_ev, iCont_ev, iBef_ev, iAft_ev, wfl_next, wfl_cont, wfl_brk, wfl_ret, wipe_nil, wipe_cons, wp_no, wp_val, wp_own, iNm_ev, iGT_tup, iGT_list, iGN_ev, iGC_ev, iAsgT_ev, iCall_ev, sls_nil, sls_val, sls_own, dup_nil, dup_val, dup_own, has_nil, has_val, has_own, now_val, now_new, back_ev, bg_nil, bg_cons, bs_no, bs_val, bs_own, bsf_some, bsf_none, b1_nil, b1_val, b1_own, iApp_ev, ap1_list, apF_list, iExU_ev, exF_list, exV_new, exV_tup, iPop_ev, po_snoc, iStL_ev, iFrz_ev, fz_own, fz_val, iRev_ev, gRev_list, gRev_tup, iSeqI_ev, iRevI_ev, iEnumU_ev, iR1_ev, turn_ev, at0, at1, at2, ix0, ix1, ix2, gAdd_int, gAdd_str, gAdd_tup, gSub_int, gMul_int, gMulR_int, gMulL_int, gDiv_int, gMod_int, gPow_int, gNeg_int, gLt_int, gLe_int, gGt_int, gGe_int, gEq_int, gNe_int, gEq_str, gNe_str, gEq_bool, gNe_bool, gIs_ap, gIsN_ap, isNone_none, isNone_int, isNone_tup, isNone_str, gIx_list, gIx_tup, gSl_tup, gSl_list, c1_ap, gLen_list, gLen_tup, gInt_int, gList_list, gList_tup, gTuple_list, gTuple_tup, truD_none, truD_bool, truD_int, truD_list, truD_tup, isi_int_int, isi_int_tup, isi_bool_bool, isi_tup_tup, isi_list_list, isi_bool_int, Option.bind_some, Option.map_some, List.getElem?_cons_zero, List.getElem?_cons_succ, List.set_cons_zero, List.set_cons_succ, List.length_cons, List.length_nil, if_true, reduceIte, decide_true, decide_false, Bool.true_and, Bool.and_true, Bool.not_true, Bool.not_false, Bool.false_eq_true, Bool.not_eq_true, decide_eq_true_eq, Nat.reduceAdd, Nat.reduceLeDiff, Nat.reduceEqDiff, Nat.reduceSub, Nat.reduceMul, Int.reduceLT, Int.reduceLE, Int.reduceEq, Int.reduceAdd, Int.reduceSub, Int.reduceMul, Int.reduceNeg, Int.reduceToNat, Int.reducePow, and_self, eq_self, and_true, true_and, Nat.reduceBEq, ncast, DL.sm, List.length_map, h1, hv, h2, h3, List.length_map, hl2]
      exact fin _ e
    · by_cases h4 : 1 - 2 * v < 1000000000
      · conv at e => rhs; simp only [b1__law_rows, iSeq_ev, sq_next, sq_ret, sq_brk, sq_cont, iNext_ev, iAsg_ev, as_val, as_new_t, as_new_f, setV_ev, set_no, set_val, set_own, iVar_ev, va_val, va_own, look_ev, lo_own, look_val, look_new, vis_val, vis_new, pub_val, pub_new, pub_own, opd_ap, iCon_ap, iBin_ap, iUn_ap, argN_ap, argC_ap, looks_nil, looks_cons, viss_nil, viss_cons, iCB_ap, iTup_ap, iLst_ap, isB_ap, isI_ap, iTst_ap, iTru_ap, iNotT_ap, iAndT_ap, iOrT_ap, iAnd_ap, iOr_ap, iNot_ap, iIf_ap, iSl_ap, iNoP_ap, iPart_ap, iIsi_ap, iIfS_ev, iRet_ev, ret_val', ret_new', ret_own', ro_own, iRetN_ev, iDrop_ev, iBrk_ev, iCont_ev, iBef_ev, iAft_ev, wfl_next, wfl_cont, wfl_brk, wfl_ret, wipe_nil, wipe_cons, wp_no, wp_val, wp_own, iNm_ev, iGT_tup, iGT_list, iGN_ev, iGC_ev, iAsgT_ev, iCall_ev, sls_nil, sls_val, sls_own, dup_nil, dup_val, dup_own, has_nil, has_val, has_own, now_val, now_new, back_ev, bg_nil, bg_cons, bs_no, bs_val, bs_own, bsf_some, bsf_none, b1_nil, b1_val, b1_own, iApp_ev, ap1_list, apF_list, iExU_ev, exF_list, exV_new, exV_tup, iPop_ev, po_snoc, iStL_ev, iFrz_ev, fz_own, fz_val, iRev_ev, gRev_list, gRev_tup, iSeqI_ev, iRevI_ev, iEnumU_ev, iR1_ev, turn_ev, at0, at1, at2, ix0, ix1, ix2, gAdd_int, gAdd_str, gAdd_tup, gSub_int, gMul_int, gMulR_int, gMulL_int, gDiv_int, gMod_int, gPow_int, gNeg_int, gLt_int, gLe_int, gGt_int, gGe_int, gEq_int, gNe_int, gEq_str, gNe_str, gEq_bool, gNe_bool, gIs_ap, gIsN_ap, isNone_none, isNone_int, isNone_tup, isNone_str, gIx_list, gIx_tup, gSl_tup, gSl_list, c1_ap, gLen_list, gLen_tup, gInt_int, gList_list, gList_tup, gTuple_list, gTuple_tup, truD_none, truD_bool, truD_int, truD_list, truD_tup, isi_int_int, isi_int_tup, isi_bool_bool, isi_tup_tup, isi_list_list, isi_bool_int, Option.bind_some, Option.map_some, List.getElem?_cons_zero, List.getElem?_cons_succ, List.set_cons_zero, List.set_cons_succ, List.length_cons, List.length_nil, if_true, reduceIte, decide_true, decide_false, Bool.true_and, Bool.and_true, Bool.not_true, Bool.not_false, Bool.false_eq_true, Bool.not_eq_true, decide_eq_true_eq, Nat.reduceAdd, Nat.reduceLeDiff, Nat.reduceEqDiff, Nat.reduceSub, Nat.reduceMul, Int.reduceLT, Int.reduceLE, Int.reduceEq, Int.reduceAdd, Int.reduceSub, Int.reduceMul, Int.reduceNeg, Int.reduceToNat, Int.reducePow, and_self, eq_self, and_true, true_and, Nat.reduceBEq, ncast, DL.sm, List.length_map, h1, hv, h2, h3, h4, List.length_map, hl2]
        exact fin _ e
      · conv at e => rhs; simp only [b1__law_rows, iSeq_ev, sq_next, sq_ret, sq_brk, sq_cont, iNext_ev, iAsg_ev, as_val, as_new_t, as_new_f, setV_ev, set_no, set_val, set_own, iVar_ev, va_val, va_own, look_ev, lo_own, look_val, look_new, vis_val, vis_new, pub_val, pub_new, pub_own, opd_ap, iCon_ap, iBin_ap, iUn_ap, argN_ap, argC_ap, looks_nil, looks_cons, viss_nil, viss_cons, iCB_ap, iTup_ap, iLst_ap, isB_ap, isI_ap, iTst_ap, iTru_ap, iNotT_ap, iAndT_ap, iOrT_ap, iAnd_ap, iOr_ap, iNot_ap, iIf_ap, iSl_ap, iNoP_ap, iPart_ap, iIsi_ap, iIfS_ev, iRet_ev, ret_val', ret_new', ret_own', ro_own, iRetN_ev, iDrop_ev, iBrk_ev, iCont_ev, iBef_ev, iAft_ev, wfl_next, wfl_cont, wfl_brk, wfl_ret, wipe_nil, wipe_cons, wp_no, wp_val, wp_own, iNm_ev, iGT_tup, iGT_list, iGN_ev, iGC_ev, iAsgT_ev, iCall_ev, sls_nil, sls_val, sls_own, dup_nil, dup_val, dup_own, has_nil, has_val, has_own, now_val, now_new, back_ev, bg_nil, bg_cons, bs_no, bs_val, bs_own, bsf_some, bsf_none, b1_nil, b1_val, b1_own, iApp_ev, ap1_list, apF_list, iExU_ev, exF_list, exV_new, exV_tup, iPop_ev, po_snoc, iStL_ev, iFrz_ev, fz_own, fz_val, iRev_ev, gRev_list, gRev_tup, iSeqI_ev, iRevI_ev, iEnumU_ev, iR1_ev, turn_ev, at0, at1, at2, ix0, ix1, ix2, gAdd_int, gAdd_str, gAdd_tup, gSub_int, gMul_int, gMulR_int, gMulL_int, gDiv_int, gMod_int, gPow_int, gNeg_int, gLt_int, gLe_int, gGt_int, gGe_int, gEq_int, gNe_int, gEq_str, gNe_str, gEq_bool, gNe_bool, gIs_ap, gIsN_ap, isNone_none, isNone_int, isNone_tup, isNone_str, gIx_list, gIx_tup, gSl_tup, gSl_list, c1_ap, gLen_list, gLen_tup, gInt_int, gList_list, gList_tup, gTuple_list, gTuple_tup, truD_none, truD_bool, truD_int, truD_list, truD_tup, isi_int_int, isi_int_tup, isi_bool_bool, isi_tup_tup, isi_list_list, isi_bool_int, Option.bind_some, Option.map_some, List.getElem?_cons_zero, List.getElem?_cons_succ, List.set_cons_zero, List.set_cons_succ, List.length_cons, List.length_nil, if_true, reduceIte, decide_true, decide_false, Bool.true_and, Bool.and_true, Bool.not_true, Bool.not_false, Bool.false_eq_true, Bool.not_eq_true, decide_eq_true_eq, Nat.reduceAdd, Nat.reduceLeDiff, Nat.reduceEqDiff, Nat.reduceSub, Nat.reduceMul, Int.reduceLT, Int.reduceLE, Int.reduceEq, Int.reduceAdd, Int.reduceSub, Int.reduceMul, Int.reduceNeg, Int.reduceToNat, Int.reducePow, and_self, eq_self, and_true, true_and, Nat.reduceBEq, ncast, DL.sm, List.length_map, h1, hv, h2, h3, h4, List.length_map, hl2]
        exact fin _ e
    · conv at e => rhs; simp only [b1__law_rows, iSeq_ev, sq_next, sq_ret, sq_brk, sq_cont, iNext_ev, iAsg_ev, as_val, as_new_t, as_new_f, setV_ev, set_no, set_val, set_own, iVar_ev, va_val, va_own, look_ev, lo_own, look_val, look_new, vis_val, vis_new, pub_val, pub_new, pub_own, opd_ap, iCon_ap, iBin_ap, iUn_ap, argN_ap, argC_ap, looks_nil, looks_cons, viss_nil, viss_cons, iCB_ap, iTup_ap, iLst_ap, isB_ap, isI_ap, iTst_ap, iTru_ap, iNotT_ap, iAndT_ap, iOrT_ap, iAnd_ap, iOr_ap, iNot_ap, iIf_ap, iSl_ap, iNoP_ap, iPart_ap, iIsi_ap, iIfS_ev, iRet_ev, ret_val', ret_new', ret_own', ro_own, iRetN_ev, iDrop_ev, iBrk_ev, iCont_ev, iBef_ev, iAft_ev, wfl_next, wfl_cont, wfl_brk, wfl_ret, wipe_nil, wipe_cons, wp_no, wp_val, wp_own, iNm_ev, iGT_tup, iGT_list, iGN_ev, iGC_ev, iAsgT_ev, iCall_ev, sls_nil, sls_val, sls_own, dup_nil, dup_val, dup_own, has_nil, has_val, has_own, now_val, now_new, back_ev, bg_nil, bg_cons, bs_no, bs_val, bs_own, bsf_some, bsf_none, b1_nil, b1_val, b1_own, iApp_ev, ap1_list, apF_list, iExU_ev, exF_list, exV_new, exV_tup, iPop_ev, po_snoc, iStL_ev, iFrz_ev, fz_own, fz_val, iRev_ev, gRev_list, gRev_tup, iSeqI_ev, iRevI_ev, iEnumU_ev, iR1_ev, turn_ev, at0, at1, at2, ix0, ix1, ix2, gAdd_int, gAdd_str, gAdd_tup, gSub_int, gMul_int, gMulR_int, gMulL_int, gDiv_int, gMod_int, gPow_int, gNeg_int, gLt_int, gLe_int, gGt_int, gGe_int, gEq_int, gNe_int, gEq_str, gNe_str, gEq_bool, gNe_bool, gIs_ap, gIsN_ap, isNone_none, isNone_int, isNone_tup, isNone_str, gIx_list, gIx_tup, gSl_tup, gSl_list, c1_ap, gLen_list, gLen_tup, gInt_int, gList_list, gList_tup, gTuple_list, gTuple_tup, truD_none, truD_bool, truD_int, truD_list, truD_tup, isi_int_int, isi_int_tup, isi_bool_bool, isi_tup_tup, isi_list_list, isi_bool_int, Option.bind_some, Option.map_some, List.getElem?_cons_zero, List.getElem?_cons_succ, List.set_cons_zero, List.set_cons_succ, List.length_cons, List.length_nil, if_true, reduceIte, decide_true, decide_false, Bool.true_and, Bool.and_true, Bool.not_true, Bool.not_false, Bool.false_eq_true, Bool.not_eq_true, decide_eq_true_eq, Nat.reduceAdd, Nat.reduceLeDiff, Nat.reduceEqDiff, Nat.reduceSub, Nat.reduceMul, Int.reduceLT, Int.reduceLE, Int.reduceEq, Int.reduceAdd, Int.reduceSub, Int.reduceMul, Int.reduceNeg, Int.reduceToNat, Int.reducePow, and_self, eq_self, and_true, true_and, Nat.reduceBEq, ncast, DL.sm, List.length_map, h1, hv, h2, h3, List.length_map, hl2]
      exact fin _ e
    · by_cases h4 : v < 1000000000
      · conv at e => rhs; simp only [b1__law_rows, iSeq_ev, sq_next, sq_ret, sq_brk, sq_cont, iNext_ev, iAsg_ev, as_val, as_new_t, as_new_f, setV_ev, set_no, set_val, set_own, iVar_ev, va_val, va_own, look_ev, lo_own, look_val, look_new, vis_val, vis_new, pub_val, pub_new, pub_own, opd_ap, iCon_ap, iBin_ap, iUn_ap, argN_ap, argC_ap, looks_nil, looks_cons, viss_nil, viss_cons, iCB_ap, iTup_ap, iLst_ap, isB_ap, isI_ap, iTst_ap, iTru_ap, iNotT_ap, iAndT_ap, iOrT_ap, iAnd_ap, iOr_ap, iNot_ap, iIf_ap, iSl_ap, iNoP_ap, iPart_ap, iIsi_ap, iIfS_ev, iRet_ev, ret_val', ret_new', ret_own', ro_own, iRetN_ev, iDrop_ev, iBrk_ev, iCont_ev, iBef_ev, iAft_ev, wfl_next, wfl_cont, wfl_brk, wfl_ret, wipe_nil, wipe_cons, wp_no, wp_val, wp_own, iNm_ev, iGT_tup, iGT_list, iGN_ev, iGC_ev, iAsgT_ev, iCall_ev, sls_nil, sls_val, sls_own, dup_nil, dup_val, dup_own, has_nil, has_val, has_own, now_val, now_new, back_ev, bg_nil, bg_cons, bs_no, bs_val, bs_own, bsf_some, bsf_none, b1_nil, b1_val, b1_own, iApp_ev, ap1_list, apF_list, iExU_ev, exF_list, exV_new, exV_tup, iPop_ev, po_snoc, iStL_ev, iFrz_ev, fz_own, fz_val, iRev_ev, gRev_list, gRev_tup, iSeqI_ev, iRevI_ev, iEnumU_ev, iR1_ev, turn_ev, at0, at1, at2, ix0, ix1, ix2, gAdd_int, gAdd_str, gAdd_tup, gSub_int, gMul_int, gMulR_int, gMulL_int, gDiv_int, gMod_int, gPow_int, gNeg_int, gLt_int, gLe_int, gGt_int, gGe_int, gEq_int, gNe_int, gEq_str, gNe_str, gEq_bool, gNe_bool, gIs_ap, gIsN_ap, isNone_none, isNone_int, isNone_tup, isNone_str, gIx_list, gIx_tup, gSl_tup, gSl_list, c1_ap, gLen_list, gLen_tup, gInt_int, gList_list, gList_tup, gTuple_list, gTuple_tup, truD_none, truD_bool, truD_int, truD_list, truD_tup, isi_int_int, isi_int_tup, isi_bool_bool, isi_tup_tup, isi_list_list, isi_bool_int, Option.bind_some, Option.map_some, List.getElem?_cons_zero, List.getElem?_cons_succ, List.set_cons_zero, List.set_cons_succ, List.length_cons, List.length_nil, if_true, reduceIte, decide_true, decide_false, Bool.true_and, Bool.and_true, Bool.not_true, Bool.not_false, Bool.false_eq_true, Bool.not_eq_true, decide_eq_true_eq, Nat.reduceAdd, Nat.reduceLeDiff, Nat.reduceEqDiff, Nat.reduceSub, Nat.reduceMul, Int.reduceLT, Int.reduceLE, Int.reduceEq, Int.reduceAdd, Int.reduceSub, Int.reduceMul, Int.reduceNeg, Int.reduceToNat, Int.reducePow, and_self, eq_self, and_true, true_and, Nat.reduceBEq, ncast, DL.sm, List.length_map, h1, hv, h2, h3, h4, List.length_map, hl2]
        exact fin _ e
      · conv at e => rhs; simp only [b1__law_rows, iSeq_ev, sq_next, sq_ret, sq_brk, sq_cont, iNext_ev, iAsg_ev, as_val, as_new_t, as_new_f, setV_ev, set_no, set_val, set_own, iVar_ev, va_val, va_own, look_ev, lo_own, look_val, look_new, vis_val, vis_new, pub_val, pub_new, pub_own, opd_ap, iCon_ap, iBin_ap, iUn_ap, argN_ap, argC_ap, looks_nil, looks_cons, viss_nil, viss_cons, iCB_ap, iTup_ap, iLst_ap, isB_ap, isI_ap, iTst_ap, iTru_ap, iNotT_ap, iAndT_ap, iOrT_ap, iAnd_ap, iOr_ap, iNot_ap, iIf_ap, iSl_ap, iNoP_ap, iPart_ap, iIsi_ap, iIfS_ev, iRet_ev, ret_val', ret_new', ret_own', ro_own, iRetN_ev, iDrop_ev, iBrk_ev, iCont_ev, iBef_ev, iAft_ev, wfl_next, wfl_cont, wfl_brk, wfl_ret, wipe_nil, wipe_cons, wp_no, wp_val, wp_own, iNm_ev, iGT_tup, iGT_list, iGN_ev, iGC_ev, iAsgT_ev, iCall_ev, sls_nil, sls_val, sls_own, dup_nil, dup_val, dup_own, has_nil, has_val, has_own, now_val, now_new, back_ev, bg_nil, bg_cons, bs_no, bs_val, bs_own, bsf_some, bsf_none, b1_nil, b1_val, b1_own, iApp_ev, ap1_list, apF_list, iExU_ev, exF_list, exV_new, exV_tup, iPop_ev, po_snoc, iStL_ev, iFrz_ev, fz_own, fz_val, iRev_ev, gRev_list, gRev_tup, iSeqI_ev, iRevI_ev, iEnumU_ev, iR1_ev, turn_ev, at0, at1, at2, ix0, ix1, ix2, gAdd_int, gAdd_str, gAdd_tup, gSub_int, gMul_int, gMulR_int, gMulL_int, gDiv_int, gMod_int, gPow_int, gNeg_int, gLt_int, gLe_int, gGt_int, gGe_int, gEq_int, gNe_int, gEq_str, gNe_str, gEq_bool, gNe_bool, gIs_ap, gIsN_ap, isNone_none, isNone_int, isNone_tup, isNone_str, gIx_list, gIx_tup, gSl_tup, gSl_list, c1_ap, gLen_list, gLen_tup, gInt_int, gList_list, gList_tup, gTuple_list, gTuple_tup, truD_none, truD_bool, truD_int, truD_list, truD_tup, isi_int_int, isi_int_tup, isi_bool_bool, isi_tup_tup, isi_list_list, isi_bool_int, Option.bind_some, Option.map_some, List.getElem?_cons_zero, List.getElem?_cons_succ, List.set_cons_zero, List.set_cons_succ, List.length_cons, List.length_nil, if_true, reduceIte, decide_true, decide_false, Bool.true_and, Bool.and_true, Bool.not_true, Bool.not_false, Bool.false_eq_true, Bool.not_eq_true, decide_eq_true_eq, Nat.reduceAdd, Nat.reduceLeDiff, Nat.reduceEqDiff, Nat.reduceSub, Nat.reduceMul, Int.reduceLT, Int.reduceLE, Int.reduceEq, Int.reduceAdd, Int.reduceSub, Int.reduceMul, Int.reduceNeg, Int.reduceToNat, Int.reducePow, and_self, eq_self, and_true, true_and, Nat.reduceBEq, ncast, DL.sm, List.length_map, h1, hv, h2, h3, h4, List.length_map, hl2]
        exact fin _ e
  · have h3 : (ns.length : Int) ≤ 0 + (k : Int) := by omega
    conv at e => rhs; simp only [b1__law_rows, iSeq_ev, sq_next, sq_ret, sq_brk, sq_cont, iNext_ev, iAsg_ev, as_val, as_new_t, as_new_f, setV_ev, set_no, set_val, set_own, iVar_ev, va_val, va_own, look_ev, lo_own, look_val, look_new, vis_val, vis_new, pub_val, pub_new, pub_own, opd_ap, iCon_ap, iBin_ap, iUn_ap, argN_ap, argC_ap, looks_nil, looks_cons, viss_nil, viss_cons, iCB_ap, iTup_ap, iLst_ap, isB_ap, isI_ap, iTst_ap, iTru_ap, iNotT_ap, iAndT_ap, iOrT_ap, iAnd_ap, iOr_ap, iNot_ap, iIf_ap, iSl_ap, iNoP_ap, iPart_ap, iIsi_ap, iIfS_ev, iRet_ev, ret_val', ret_new', ret_own', ro_own, iRetN_ev, iDrop_ev, iBrk_ev, iCont_ev, iBef_ev, iAft_ev, wfl_next, wfl_cont, wfl_brk, wfl_ret, wipe_nil, wipe_cons, wp_no, wp_val, wp_own, iNm_ev, iGT_tup, iGT_list, iGN_ev, iGC_ev, iAsgT_ev, iCall_ev, sls_nil, sls_val, sls_own, dup_nil, dup_val, dup_own, has_nil, has_val, has_own, now_val, now_new, back_ev, bg_nil, bg_cons, bs_no, bs_val, bs_own, bsf_some, bsf_none, b1_nil, b1_val, b1_own, iApp_ev, ap1_list, apF_list, iExU_ev, exF_list, exV_new, exV_tup, iPop_ev, po_snoc, iStL_ev, iFrz_ev, fz_own, fz_val, iRev_ev, gRev_list, gRev_tup, iSeqI_ev, iRevI_ev, iEnumU_ev, iR1_ev, turn_ev, at0, at1, at2, ix0, ix1, ix2, gAdd_int, gAdd_str, gAdd_tup, gSub_int, gMul_int, gMulR_int, gMulL_int, gDiv_int, gMod_int, gPow_int, gNeg_int, gLt_int, gLe_int, gGt_int, gGe_int, gEq_int, gNe_int, gEq_str, gNe_str, gEq_bool, gNe_bool, gIs_ap, gIsN_ap, isNone_none, isNone_int, isNone_tup, isNone_str, gIx_list, gIx_tup, gSl_tup, gSl_list, c1_ap, gLen_list, gLen_tup, gInt_int, gList_list, gList_tup, gTuple_list, gTuple_tup, truD_none, truD_bool, truD_int, truD_list, truD_tup, isi_int_int, isi_int_tup, isi_bool_bool, isi_tup_tup, isi_list_list, isi_bool_int, Option.bind_some, Option.map_some, List.getElem?_cons_zero, List.getElem?_cons_succ, List.set_cons_zero, List.set_cons_succ, List.length_cons, List.length_nil, if_true, reduceIte, decide_true, decide_false, Bool.true_and, Bool.and_true, Bool.not_true, Bool.not_false, Bool.false_eq_true, Bool.not_eq_true, decide_eq_true_eq, Nat.reduceAdd, Nat.reduceLeDiff, Nat.reduceEqDiff, Nat.reduceSub, Nat.reduceMul, Int.reduceLT, Int.reduceLE, Int.reduceEq, Int.reduceAdd, Int.reduceSub, Int.reduceMul, Int.reduceNeg, Int.reduceToNat, Int.reducePow, and_self, eq_self, and_true, true_and, Nat.reduceBEq, ncast, DL.sm, List.length_map, h1, h3, List.length_map, hl2]
    exact fin _ e
theorem rows_eq (ns : List Int) : ∃ rs : List Int, rs.length = 64 ∧ F__law_rows [.val (scr ns), .val (.int 64)] = some (.new (.list (rs.map .int)), [.val (scr ns), .val (.int 64)]) := by
  obtain ⟨e2, hf, rs, hr, he⟩ := floop_inv (tg := iNm 3) (s := b1__law_rows) (dn := fun k : Nat => D.int (0 + (k : Int))) (fun xs e => ∃ rs : List Int, rs.length + xs.length = 64 ∧ e = RE ns rs) (fun x xs e ⟨rs, hl, he⟩ => by
      subst he
      rw [List.length_cons] at hl
      obtain ⟨c, hc⟩ := rows_turn ns rs x (by omega)
      exact ⟨_, .inl hc, rs ++ [c], by rw [List.length_append, List.length_singleton]; omega, rfl⟩) (List.range 64) (RE ns []) ⟨[], by simp, rfl⟩
  subst he
  have hr1 : ∀ e, r1F [.val (.int 64)] e = some ((List.range 64).map fun k : Nat => D.int (0 + (k : Int)), e) := fun e => r1_int (by decide)
  refine ⟨rs, by simpa using hr, ?_⟩
  have e := @rfl _ (m__law_rows [.val (scr ns), .val (.int 64), .no, .no, .no])
  have hf' : floop (iNm 3) b1__law_rows ((List.range 64).map fun k : Nat => D.int (0 + (k : Int))) [.val (scr ns), .val (.int 64), .own false (.list []), .no, .no] = some (.next (RE ns rs)) := hf
  conv at e => rhs; simp only [m__law_rows, iSeq_ev, sq_next, sq_ret, sq_brk, sq_cont, iNext_ev, iAsg_ev, as_val, as_new_t, as_new_f, setV_ev, set_no, set_val, set_own, iVar_ev, va_val, va_own, look_ev, lo_own, look_val, look_new, vis_val, vis_new, pub_val, pub_new, pub_own, opd_ap, iCon_ap, iBin_ap, iUn_ap, argN_ap, argC_ap, looks_nil, looks_cons, viss_nil, viss_cons, iCB_ap, iTup_ap, iLst_ap, isB_ap, isI_ap, iTst_ap, iTru_ap, iNotT_ap, iAndT_ap, iOrT_ap, iAnd_ap, iOr_ap, iNot_ap, iIf_ap, iSl_ap, iNoP_ap, iPart_ap, iIsi_ap, iIfS_ev, iRet_ev, ret_val', ret_new', ret_own', ro_own, iRetN_ev, iDrop_ev, iBrk_ev, iCont_ev, iBef_ev, iAft_ev, wfl_next, wfl_cont, wfl_brk, wfl_ret, wipe_nil, wipe_cons, wp_no, wp_val, wp_own, iNm_ev, iGT_tup, iGT_list, iGN_ev, iGC_ev, iAsgT_ev, iCall_ev, sls_nil, sls_val, sls_own, dup_nil, dup_val, dup_own, has_nil, has_val, has_own, now_val, now_new, back_ev, bg_nil, bg_cons, bs_no, bs_val, bs_own, bsf_some, bsf_none, b1_nil, b1_val, b1_own, iApp_ev, ap1_list, apF_list, iExU_ev, exF_list, exV_new, exV_tup, iPop_ev, po_snoc, iStL_ev, iFrz_ev, fz_own, fz_val, iRev_ev, gRev_list, gRev_tup, iSeqI_ev, iRevI_ev, iEnumU_ev, iR1_ev, turn_ev, at0, at1, at2, ix0, ix1, ix2, gAdd_int, gAdd_str, gAdd_tup, gSub_int, gMul_int, gMulR_int, gMulL_int, gDiv_int, gMod_int, gPow_int, gNeg_int, gLt_int, gLe_int, gGt_int, gGe_int, gEq_int, gNe_int, gEq_str, gNe_str, gEq_bool, gNe_bool, gIs_ap, gIsN_ap, isNone_none, isNone_int, isNone_tup, isNone_str, gIx_list, gIx_tup, gSl_tup, gSl_list, c1_ap, gLen_list, gLen_tup, gInt_int, gList_list, gList_tup, gTuple_list, gTuple_tup, truD_none, truD_bool, truD_int, truD_list, truD_tup, isi_int_int, isi_int_tup, isi_bool_bool, isi_tup_tup, isi_list_list, isi_bool_int, Option.bind_some, Option.map_some, List.getElem?_cons_zero, List.getElem?_cons_succ, List.set_cons_zero, List.set_cons_succ, List.length_cons, List.length_nil, if_true, reduceIte, decide_true, decide_false, Bool.true_and, Bool.and_true, Bool.not_true, Bool.not_false, Bool.false_eq_true, Bool.not_eq_true, decide_eq_true_eq, Nat.reduceAdd, Nat.reduceLeDiff, Nat.reduceEqDiff, Nat.reduceSub, Nat.reduceMul, Int.reduceLT, Int.reduceLE, Int.reduceEq, Int.reduceAdd, Int.reduceSub, Int.reduceMul, Int.reduceNeg, Int.reduceToNat, Int.reducePow, and_self, eq_self, and_true, true_and, Nat.reduceBEq, ncast, DL.sm, List.length_map, iFor_ev, hr1, hf']
  exact run_ret (n := 2) (N := 5) (sls := [.val (scr ns), .val (.int 64)]) e rfl
theorem state_eq (ns : List Int) : ∃ rs a, rs.length = 64 ∧ F__law_state [.val (scr ns)] = some (.new (St a 0 rs), [.val (scr ns)]) := by
  obtain ⟨rs, hr, h⟩ := rows_eq ns
  obtain ⟨a, rs', rfl⟩ : ∃ a rs', rs = a :: rs' := by
    cases rs with
    | nil => cases hr
    | cons a rs' => exact ⟨a, rs', rfl⟩
  refine ⟨a :: rs', a, hr, ?_⟩
  have e := @rfl _ (m__law_state F__law_rows [.val (scr ns), .no])
  conv at e => rhs; simp only [m__law_state, iSeq_ev, sq_next, sq_ret, sq_brk, sq_cont, iNext_ev, iAsg_ev, as_val, as_new_t, as_new_f, setV_ev, set_no, set_val, set_own, iVar_ev, va_val, va_own, look_ev, lo_own, look_val, look_new, vis_val, vis_new, pub_val, pub_new, pub_own, opd_ap, iCon_ap, iBin_ap, iUn_ap, argN_ap, argC_ap, looks_nil, looks_cons, viss_nil, viss_cons, iCB_ap, iTup_ap, iLst_ap, isB_ap, isI_ap, iTst_ap, iTru_ap, iNotT_ap, iAndT_ap, iOrT_ap, iAnd_ap, iOr_ap, iNot_ap, iIf_ap, iSl_ap, iNoP_ap, iPart_ap, iIsi_ap, iIfS_ev, iRet_ev, ret_val', ret_new', ret_own', ro_own, iRetN_ev, iDrop_ev, iBrk_ev, iCont_ev, iBef_ev, iAft_ev, wfl_next, wfl_cont, wfl_brk, wfl_ret, wipe_nil, wipe_cons, wp_no, wp_val, wp_own, iNm_ev, iGT_tup, iGT_list, iGN_ev, iGC_ev, iAsgT_ev, iCall_ev, sls_nil, sls_val, sls_own, dup_nil, dup_val, dup_own, has_nil, has_val, has_own, now_val, now_new, back_ev, bg_nil, bg_cons, bs_no, bs_val, bs_own, bsf_some, bsf_none, b1_nil, b1_val, b1_own, iApp_ev, ap1_list, apF_list, iExU_ev, exF_list, exV_new, exV_tup, iPop_ev, po_snoc, iStL_ev, iFrz_ev, fz_own, fz_val, iRev_ev, gRev_list, gRev_tup, iSeqI_ev, iRevI_ev, iEnumU_ev, iR1_ev, turn_ev, at0, at1, at2, ix0, ix1, ix2, gAdd_int, gAdd_str, gAdd_tup, gSub_int, gMul_int, gMulR_int, gMulL_int, gDiv_int, gMod_int, gPow_int, gNeg_int, gLt_int, gLe_int, gGt_int, gGe_int, gEq_int, gNe_int, gEq_str, gNe_str, gEq_bool, gNe_bool, gIs_ap, gIsN_ap, isNone_none, isNone_int, isNone_tup, isNone_str, gIx_list, gIx_tup, gSl_tup, gSl_list, c1_ap, gLen_list, gLen_tup, gInt_int, gList_list, gList_tup, gTuple_list, gTuple_tup, truD_none, truD_bool, truD_int, truD_list, truD_tup, isi_int_int, isi_int_tup, isi_bool_bool, isi_tup_tup, isi_list_list, isi_bool_int, Option.bind_some, Option.map_some, List.getElem?_cons_zero, List.getElem?_cons_succ, List.set_cons_zero, List.set_cons_succ, List.length_cons, List.length_nil, if_true, reduceIte, decide_true, decide_false, Bool.true_and, Bool.and_true, Bool.not_true, Bool.not_false, Bool.false_eq_true, Bool.not_eq_true, decide_eq_true_eq, Nat.reduceAdd, Nat.reduceLeDiff, Nat.reduceEqDiff, Nat.reduceSub, Nat.reduceMul, Int.reduceLT, Int.reduceLE, Int.reduceEq, Int.reduceAdd, Int.reduceSub, Int.reduceMul, Int.reduceNeg, Int.reduceToNat, Int.reducePow, and_self, eq_self, and_true, true_and, Nat.reduceBEq, ncast, DL.sm, List.length_map, h, List.map_cons]
  exact run_ret (n := 1) (N := 2) (sls := [.val (scr ns)]) e rfl
/-! what is drawn -/
abbrev TA (depth : Nat) (bd : Int) (a b : Int) (rs : List Int) : List Sl := [.own true (St a b rs), .val (.int (depth : Int)), .val (.int bd)]
theorem tterm_eq : ∀ (n depth : Nat) (bd a b : Int) (rs : List Int), depth < n → 0 ≤ bd → bd < 1000 → rs.length = 64 → ∃ d a' b', it__law_tree_term n (TA depth bd a b rs) = some (.val d, TA depth bd a' b' rs) ∧ Py (2 * depth + 3) d := by
  intro n
  induction n with
  | zero => intro depth bd a b rs h; omega
  | succ n ih =>
    intro depth bd a b rs hd hb0 hb1 hr
    rw [show it__law_tree_term (n + 1) = runDef 3 4 (m__law_tree_term F__law_digit (it__law_tree_term n)) from rfl]
    obtain ⟨k, a1, b1, h1, k0, k1⟩ := digit_eq (a := a) (b := b) (m := 4) (by omega) (by omega) hr
    have e := @rfl _ (m__law_tree_term F__law_digit (it__law_tree_term n) (TA depth bd a b rs ++ [.no]))
    by_cases c1 : k < 2 ∧ 0 < bd
    · obtain ⟨k2, a2, b2, h2, _, _⟩ := digit_eq (a := a1) (b := b1) (m := bd) c1.2 (by omega) hr
      conv at e => rhs; simp only [m__law_tree_term, iSeq_ev, sq_next, sq_ret, sq_brk, sq_cont, iNext_ev, iAsg_ev, as_val, as_new_t, as_new_f, setV_ev, set_no, set_val, set_own, iVar_ev, va_val, va_own, look_ev, lo_own, look_val, look_new, vis_val, vis_new, pub_val, pub_new, pub_own, opd_ap, iCon_ap, iBin_ap, iUn_ap, argN_ap, argC_ap, looks_nil, looks_cons, viss_nil, viss_cons, iCB_ap, iTup_ap, iLst_ap, isB_ap, isI_ap, iTst_ap, iTru_ap, iNotT_ap, iAndT_ap, iOrT_ap, iAnd_ap, iOr_ap, iNot_ap, iIf_ap, iSl_ap, iNoP_ap, iPart_ap, iIsi_ap, iIfS_ev, iRet_ev, ret_val', ret_new', ret_own', ro_own, iRetN_ev, iDrop_ev, iBrk_ev, iCont_ev, iBef_ev, iAft_ev, wfl_next, wfl_cont, wfl_brk, wfl_ret, wipe_nil, wipe_cons, wp_no, wp_val, wp_own, iNm_ev, iGT_tup, iGT_list, iGN_ev, iGC_ev, iAsgT_ev, iCall_ev, sls_nil, sls_val, sls_own, dup_nil, dup_val, dup_own, has_nil, has_val, has_own, now_val, now_new, back_ev, bg_nil, bg_cons, bs_no, bs_val, bs_own, bsf_some, bsf_none, b1_nil, b1_val, b1_own, iApp_ev, ap1_list, apF_list, iExU_ev, exF_list, exV_new, exV_tup, iPop_ev, po_snoc, iStL_ev, iFrz_ev, fz_own, fz_val, iRev_ev, gRev_list, gRev_tup, iSeqI_ev, iRevI_ev, iEnumU_ev, iR1_ev, turn_ev, at0, at1, at2, ix0, ix1, ix2, gAdd_int, gAdd_str, gAdd_tup, gSub_int, gMul_int, gMulR_int, gMulL_int, gDiv_int, gMod_int, gPow_int, gNeg_int, gLt_int, gLe_int, gGt_int, gGe_int, gEq_int, gNe_int, gEq_str, gNe_str, gEq_bool, gNe_bool, gIs_ap, gIsN_ap, isNone_none, isNone_int, isNone_tup, isNone_str, gIx_list, gIx_tup, gSl_tup, gSl_list, c1_ap, gLen_list, gLen_tup, gInt_int, gList_list, gList_tup, gTuple_list, gTuple_tup, truD_none, truD_bool, truD_int, truD_list, truD_tup, isi_int_int, isi_int_tup, isi_bool_bool, isi_tup_tup, isi_list_list, isi_bool_int, Option.bind_some, Option.map_some, List.getElem?_cons_zero, List.getElem?_cons_succ, List.set_cons_zero, List.set_cons_succ, List.length_cons, List.length_nil, if_true, reduceIte, decide_true, decide_false, Bool.true_and, Bool.and_true, Bool.not_true, Bool.not_false, Bool.false_eq_true, Bool.not_eq_true, decide_eq_true_eq, Nat.reduceAdd, Nat.reduceLeDiff, Nat.reduceEqDiff, Nat.reduceSub, Nat.reduceMul, Int.reduceLT, Int.reduceLE, Int.reduceEq, Int.reduceAdd, Int.reduceSub, Int.reduceMul, Int.reduceNeg, Int.reduceToNat, Int.reducePow, and_self, eq_self, and_true, true_and, Nat.reduceBEq, ncast, DL.sm, List.length_map, List.cons_append, List.nil_append, h1, h2, c1.1, c1.2]
      exact ⟨_, _, _, run_ret (n := 3) (N := 4) (sls := TA depth bd a b rs) e rfl, .int⟩
    · obtain ⟨k2, a2, b2, h2, _, _⟩ := digit_eq (a := a1) (b := b1) (m := 2) (by omega) (by omega) hr
      by_cases c2 : k = 3 ∧ 0 < depth
      · obtain ⟨dd, rfl⟩ : ∃ dd, depth = dd + 1 := ⟨depth - 1, by omega⟩
        obtain ⟨d, a3, b3, h3, pd⟩ := ih dd bd a1 b1 rs (by omega) hb0 hb1 hr
        have ed : (((dd + 1 : Nat) : Int) - 1) = (dd : Int) := by omega
        have q0 : (0 : Int) < ((dd + 1 : Nat) : Int) := by omega
        have q1 : ¬ k < 2 := by omega
        conv at e => rhs; simp only [m__law_tree_term, iSeq_ev, sq_next, sq_ret, sq_brk, sq_cont, iNext_ev, iAsg_ev, as_val, as_new_t, as_new_f, setV_ev, set_no, set_val, set_own, iVar_ev, va_val, va_own, look_ev, lo_own, look_val, look_new, vis_val, vis_new, pub_val, pub_new, pub_own, opd_ap, iCon_ap, iBin_ap, iUn_ap, argN_ap, argC_ap, looks_nil, looks_cons, viss_nil, viss_cons, iCB_ap, iTup_ap, iLst_ap, isB_ap, isI_ap, iTst_ap, iTru_ap, iNotT_ap, iAndT_ap, iOrT_ap, iAnd_ap, iOr_ap, iNot_ap, iIf_ap, iSl_ap, iNoP_ap, iPart_ap, iIsi_ap, iIfS_ev, iRet_ev, ret_val', ret_new', ret_own', ro_own, iRetN_ev, iDrop_ev, iBrk_ev, iCont_ev, iBef_ev, iAft_ev, wfl_next, wfl_cont, wfl_brk, wfl_ret, wipe_nil, wipe_cons, wp_no, wp_val, wp_own, iNm_ev, iGT_tup, iGT_list, iGN_ev, iGC_ev, iAsgT_ev, iCall_ev, sls_nil, sls_val, sls_own, dup_nil, dup_val, dup_own, has_nil, has_val, has_own, now_val, now_new, back_ev, bg_nil, bg_cons, bs_no, bs_val, bs_own, bsf_some, bsf_none, b1_nil, b1_val, b1_own, iApp_ev, ap1_list, apF_list, iExU_ev, exF_list, exV_new, exV_tup, iPop_ev, po_snoc, iStL_ev, iFrz_ev, fz_own, fz_val, iRev_ev, gRev_list, gRev_tup, iSeqI_ev, iRevI_ev, iEnumU_ev, iR1_ev, turn_ev, at0, at1, at2, ix0, ix1, ix2, gAdd_int, gAdd_str, gAdd_tup, gSub_int, gMul_int, gMulR_int, gMulL_int, gDiv_int, gMod_int, gPow_int, gNeg_int, gLt_int, gLe_int, gGt_int, gGe_int, gEq_int, gNe_int, gEq_str, gNe_str, gEq_bool, gNe_bool, gIs_ap, gIsN_ap, isNone_none, isNone_int, isNone_tup, isNone_str, gIx_list, gIx_tup, gSl_tup, gSl_list, c1_ap, gLen_list, gLen_tup, gInt_int, gList_list, gList_tup, gTuple_list, gTuple_tup, truD_none, truD_bool, truD_int, truD_list, truD_tup, isi_int_int, isi_int_tup, isi_bool_bool, isi_tup_tup, isi_list_list, isi_bool_int, Option.bind_some, Option.map_some, List.getElem?_cons_zero, List.getElem?_cons_succ, List.set_cons_zero, List.set_cons_succ, List.length_cons, List.length_nil, if_true, reduceIte, decide_true, decide_false, Bool.true_and, Bool.and_true, Bool.not_true, Bool.not_false, Bool.false_eq_true, Bool.not_eq_true, decide_eq_true_eq, Nat.reduceAdd, Nat.reduceLeDiff, Nat.reduceEqDiff, Nat.reduceSub, Nat.reduceMul, Int.reduceLT, Int.reduceLE, Int.reduceEq, Int.reduceAdd, Int.reduceSub, Int.reduceMul, Int.reduceNeg, Int.reduceToNat, Int.reducePow, and_self, eq_self, and_true, true_and, Nat.reduceBEq, ncast, DL.sm, List.length_map, List.cons_append, List.nil_append, h1, q1, c2.1, q0, ed, h3]
        refine ⟨_, _, _, run_ret (n := 3) (N := 4) (sls := TA (dd + 1) bd a b rs) e rfl, ?_⟩
        have q := Py.tuple (Pys.cons (Py.tuple (Pys.cons (.int (i := 2)) (.cons (.int (i := 2)) (.cons (.int (i := 0)) .nil)))) (.cons (Py.tuple (.cons pd .nil)) .nil))
        exact q.mono (by omega)
      · have pr : Py (2 * depth + 3) (.tuple [.tuple [.int 2, .int k2, .int 0], .tuple []]) := (Py.tuple (Pys.cons (Py.tuple (Pys.cons (.int (i := 2)) (.cons (.int (i := k2)) (.cons (.int (i := 0)) .nil)))) (.cons (Py.tuple (n := 1) .nil) .nil))).mono (by omega)
        by_cases p1 : k < 2 <;> by_cases p2 : 0 < bd <;> by_cases p3 : k = 3 <;> by_cases p4 : (0 : Int) < (depth : Int) <;> first
          | (exfalso; omega)
          | (conv at e => rhs; simp only [m__law_tree_term, iSeq_ev, sq_next, sq_ret, sq_brk, sq_cont, iNext_ev, iAsg_ev, as_val, as_new_t, as_new_f, setV_ev, set_no, set_val, set_own, iVar_ev, va_val, va_own, look_ev, lo_own, look_val, look_new, vis_val, vis_new, pub_val, pub_new, pub_own, opd_ap, iCon_ap, iBin_ap, iUn_ap, argN_ap, argC_ap, looks_nil, looks_cons, viss_nil, viss_cons, iCB_ap, iTup_ap, iLst_ap, isB_ap, isI_ap, iTst_ap, iTru_ap, iNotT_ap, iAndT_ap, iOrT_ap, iAnd_ap, iOr_ap, iNot_ap, iIf_ap, iSl_ap, iNoP_ap, iPart_ap, iIsi_ap, iIfS_ev, iRet_ev, ret_val', ret_new', ret_own', ro_own, iRetN_ev, iDrop_ev, iBrk_ev, iCont_ev, iBef_ev, iAft_ev, wfl_next, wfl_cont, wfl_brk, wfl_ret, wipe_nil, wipe_cons, wp_no, wp_val, wp_own, iNm_ev, iGT_tup, iGT_list, iGN_ev, iGC_ev, iAsgT_ev, iCall_ev, sls_nil, sls_val, sls_own, dup_nil, dup_val, dup_own, has_nil, has_val, has_own, now_val, now_new, back_ev, bg_nil, bg_cons, bs_no, bs_val, bs_own, bsf_some, bsf_none, b1_nil, b1_val, b1_own, iApp_ev, ap1_list, apF_list, iExU_ev, exF_list, exV_new, exV_tup, iPop_ev, po_snoc, iStL_ev, iFrz_ev, fz_own, fz_val, iRev_ev, gRev_list, gRev_tup, iSeqI_ev, iRevI_ev, iEnumU_ev, iR1_ev, turn_ev, at0, at1, at2, ix0, ix1, ix2, gAdd_int, gAdd_str, gAdd_tup, gSub_int, gMul_int, gMulR_int, gMulL_int, gDiv_int, gMod_int, gPow_int, gNeg_int, gLt_int, gLe_int, gGt_int, gGe_int, gEq_int, gNe_int, gEq_str, gNe_str, gEq_bool, gNe_bool, gIs_ap, gIsN_ap, isNone_none, isNone_int, isNone_tup, isNone_str, gIx_list, gIx_tup, gSl_tup, gSl_list, c1_ap, gLen_list, gLen_tup, gInt_int, gList_list, gList_tup, gTuple_list, gTuple_tup, truD_none, truD_bool, truD_int, truD_list, truD_tup, isi_int_int, isi_int_tup, isi_bool_bool, isi_tup_tup, isi_list_list, isi_bool_int, Option.bind_some, Option.map_some, List.getElem?_cons_zero, List.getElem?_cons_succ, List.set_cons_zero, List.set_cons_succ, List.length_cons, List.length_nil, if_true, reduceIte, decide_true, decide_false, Bool.true_and, Bool.and_true, Bool.not_true, Bool.not_false, Bool.false_eq_true, Bool.not_eq_true, decide_eq_true_eq, Nat.reduceAdd, Nat.reduceLeDiff, Nat.reduceEqDiff, Nat.reduceSub, Nat.reduceMul, Int.reduceLT, Int.reduceLE, Int.reduceEq, Int.reduceAdd, Int.reduceSub, Int.reduceMul, Int.reduceNeg, Int.reduceToNat, Int.reducePow, and_self, eq_self, and_true, true_and, Nat.reduceBEq, ncast, DL.sm, List.length_map, List.cons_append, List.nil_append, h1, h2, p1, p2, p3, p4]
             exact ⟨_, _, _, run_ret (n := 3) (N := 4) (sls := TA depth bd a b rs) e rfl, pr⟩)
theorem tterm (depth : Nat) (bd a b : Int) (rs : List Int) (h : depth < 12) (h0 : 0 ≤ bd) (h1 : bd < 1000) (hr : rs.length = 64) : ∃ d a' b', F__law_tree_term (TA depth bd a b rs) = some (.val d, TA depth bd a' b' rs) ∧ Py (2 * depth + 3) d := tterm_eq 12 depth bd a b rs h h0 h1 hr
/-- a tuple that begins with a word -/
def Hd (d : D) : Prop := ∃ w xs, d = .tuple (.str w :: xs)
theorem at_as (k : Int) (h0 : 0 ≤ k) (h1 : k < 2) : ∃ w, L2.atI [D.str "all", D.str "some"] k = some (.str w) ∧ PyData.strOk w = true := by
  have : k = 0 ∨ k = 1 := by omega
  rcases this with rfl | rfl
  · exact ⟨_, at0, by decide +kernel⟩
  · exact ⟨_, at1, by decide +kernel⟩
theorem at_aoii (k : Int) (h0 : 0 ≤ k) (h1 : k < 4) : ∃ w, L2.atI [D.str "and", D.str "or", D.str "implies", D.str "iff"] k = some (.str w) ∧ PyData.strOk w = true := by
  have : k = 0 ∨ k = 1 ∨ k = 2 ∨ k = 3 := by omega
  rcases this with rfl | rfl | rfl | rfl
  · exact ⟨_, at0, by decide +kernel⟩
  · exact ⟨_, at1, by decide +kernel⟩
  · exact ⟨_, at2, by decide +kernel⟩
  · exact ⟨_, atI_nat (j := 3) rfl, by decide +kernel⟩
theorem symP (a b c : Int) : Py 1 (.tuple [.int a, .int b, .int c]) := Py.tuple (.cons .int (.cons .int (.cons .int .nil)))
theorem tree_eq : ∀ (n depth : Nat) (bd a b : Int) (rs : List Int), depth < n → 0 ≤ bd → bd + depth < 1000 → rs.length = 64 → ∃ d a' b', it__law_tree n (TA depth bd a b rs) = some (.val d, TA depth bd a' b' rs) ∧ Hd d ∧ Py (2 * depth + 9) d := by
  intro n
  induction n with
  | zero => intro depth bd a b rs h; omega
  | succ n ih =>
    intro depth bd a b rs hd hb0 hb1 hr
    rw [show it__law_tree (n + 1) = runDef 3 6 (m__law_tree (it__law_tree n) F__law_digit F__law_tree_term) from rfl]
    obtain ⟨k, a1, b1, h1, k0, k1⟩ := digit_eq (a := a) (b := b) (m := 9) (by omega) (by omega) hr
    have e := @rfl _ (m__law_tree (it__law_tree n) F__law_digit F__law_tree_term (TA depth bd a b rs ++ [.no, .no, .no]))
    by_cases c1 : (depth : Int) = 0 ∨ k < 3
    · have basic : ∀ (W : Prop), ((depth : Int) = 0 → W) → (¬ (depth : Int) = 0 → k < 3 → W) → W := fun W f g => if h : (depth : Int) = 0 then f h else g h (by omega)
      obtain ⟨k2, a2, b2, h2, q0, q1⟩ := digit_eq (a := a1) (b := b1) (m := 4) (by omega) (by omega) hr
      obtain ⟨t1, a3, b3, h3, pt1⟩ := tterm 1 bd a2 b2 rs (by omega) hb0 (by omega) hr
      obtain ⟨t2, a4, b4, h4, pt2⟩ := tterm 1 bd a3 b3 rs (by omega) hb0 (by omega) hr
      have o1 : ((1 : Nat) : Int) = 1 := rfl
      simp only [TA, o1] at h3 h4
      have pr1 : Py (2 * depth + 9) (.tuple [.str "atom", .tuple [.tuple [.int 1, .int 4, .int 0], .tuple []]]) := (Py.tuple (n := 3) (.cons (.str (by decide +kernel)) (.cons (Py.tuple (n := 2) (.cons ((symP 1 4 0).mono (by omega)) (.cons (Py.tuple .nil) .nil))) .nil))).mono (by omega)
      have pr2 : Py (2 * depth + 9) (.tuple [.str "equal", t1, t2]) := (Py.tuple (n := 5) (.cons (.str (by decide +kernel)) (.cons pt1 (.cons pt2 .nil)))).mono (by omega)
      have pr3 : Py (2 * depth + 9) (.tuple [.str "atom", .tuple [.tuple [.int 1, .int 5, .int 0], .tuple [t1]]]) := (Py.tuple (n := 7) (.cons (.str (by decide +kernel)) (.cons (Py.tuple (n := 6) (.cons ((symP 1 5 0).mono (by omega)) (.cons (Py.tuple (.cons pt1 .nil)) .nil))) .nil))).mono (by omega)
      refine basic _ (fun z => ?_) (fun z z2 => ?_)
      · by_cases p1 : k2 = 0
        · subst p1
          conv at e => rhs; simp only [m__law_tree, iSeq_ev, sq_next, sq_ret, sq_brk, sq_cont, iNext_ev, iAsg_ev, as_val, as_new_t, as_new_f, setV_ev, set_no, set_val, set_own, iVar_ev, va_val, va_own, look_ev, lo_own, look_val, look_new, vis_val, vis_new, pub_val, pub_new, pub_own, opd_ap, iCon_ap, iBin_ap, iUn_ap, argN_ap, argC_ap, looks_nil, looks_cons, viss_nil, viss_cons, iCB_ap, iTup_ap, iLst_ap, isB_ap, isI_ap, iTst_ap, iTru_ap, iNotT_ap, iAndT_ap, iOrT_ap, iAnd_ap, iOr_ap, iNot_ap, iIf_ap, iSl_ap, iNoP_ap, iPart_ap, iIsi_ap, iIfS_ev, iRet_ev, ret_val', ret_new', ret_own', ro_own, iRetN_ev, iDrop_ev, iBrk_ev, iCont_ev, iBef_ev, iAft_ev, wfl_next, wfl_cont, wfl_brk, wfl_ret, wipe_nil, wipe_cons, wp_no, wp_val, wp_own, iNm_ev, iGT_tup, iGT_list, iGN_ev, iGC_ev, iAsgT_ev, iCall_ev, sls_nil, sls_val, sls_own, dup_nil, dup_val, dup_own, has_nil, has_val, has_own, now_val, now_new, back_ev, bg_nil, bg_cons, bs_no, bs_val, bs_own, bsf_some, bsf_none, b1_nil, b1_val, b1_own, iApp_ev, ap1_list, apF_list, iExU_ev, exF_list, exV_new, exV_tup, iPop_ev, po_snoc, iStL_ev, iFrz_ev, fz_own, fz_val, iRev_ev, gRev_list, gRev_tup, iSeqI_ev, iRevI_ev, iEnumU_ev, iR1_ev, turn_ev, at0, at1, at2, ix0, ix1, ix2, gAdd_int, gAdd_str, gAdd_tup, gSub_int, gMul_int, gMulR_int, gMulL_int, gDiv_int, gMod_int, gPow_int, gNeg_int, gLt_int, gLe_int, gGt_int, gGe_int, gEq_int, gNe_int, gEq_str, gNe_str, gEq_bool, gNe_bool, gIs_ap, gIsN_ap, isNone_none, isNone_int, isNone_tup, isNone_str, gIx_list, gIx_tup, gSl_tup, gSl_list, c1_ap, gLen_list, gLen_tup, gInt_int, gList_list, gList_tup, gTuple_list, gTuple_tup, truD_none, truD_bool, truD_int, truD_list, truD_tup, isi_int_int, isi_int_tup, isi_bool_bool, isi_tup_tup, isi_list_list, isi_bool_int, Option.bind_some, Option.map_some, List.getElem?_cons_zero, List.getElem?_cons_succ, List.set_cons_zero, List.set_cons_succ, List.length_cons, List.length_nil, if_true, reduceIte, decide_true, decide_false, Bool.true_and, Bool.and_true, Bool.not_true, Bool.not_false, Bool.false_eq_true, Bool.not_eq_true, decide_eq_true_eq, Nat.reduceAdd, Nat.reduceLeDiff, Nat.reduceEqDiff, Nat.reduceSub, Nat.reduceMul, Int.reduceLT, Int.reduceLE, Int.reduceEq, Int.reduceAdd, Int.reduceSub, Int.reduceMul, Int.reduceNeg, Int.reduceToNat, Int.reducePow, and_self, eq_self, and_true, true_and, Nat.reduceBEq, ncast, DL.sm, List.length_map, List.cons_append, List.nil_append, h1, h2, z]
          exact ⟨_, _, _, run_ret (n := 3) (N := 6) (sls := TA depth bd a b rs) e rfl, ⟨_, _, rfl⟩, pr1⟩
        · by_cases p2 : k2 = 1
          · subst p2
            conv at e => rhs; simp only [m__law_tree, iSeq_ev, sq_next, sq_ret, sq_brk, sq_cont, iNext_ev, iAsg_ev, as_val, as_new_t, as_new_f, setV_ev, set_no, set_val, set_own, iVar_ev, va_val, va_own, look_ev, lo_own, look_val, look_new, vis_val, vis_new, pub_val, pub_new, pub_own, opd_ap, iCon_ap, iBin_ap, iUn_ap, argN_ap, argC_ap, looks_nil, looks_cons, viss_nil, viss_cons, iCB_ap, iTup_ap, iLst_ap, isB_ap, isI_ap, iTst_ap, iTru_ap, iNotT_ap, iAndT_ap, iOrT_ap, iAnd_ap, iOr_ap, iNot_ap, iIf_ap, iSl_ap, iNoP_ap, iPart_ap, iIsi_ap, iIfS_ev, iRet_ev, ret_val', ret_new', ret_own', ro_own, iRetN_ev, iDrop_ev, iBrk_ev, iCont_ev, iBef_ev, iAft_ev, wfl_next, wfl_cont, wfl_brk, wfl_ret, wipe_nil, wipe_cons, wp_no, wp_val, wp_own, iNm_ev, iGT_tup, iGT_list, iGN_ev, iGC_ev, iAsgT_ev, iCall_ev, sls_nil, sls_val, sls_own, dup_nil, dup_val, dup_own, has_nil, has_val, has_own, now_val, now_new, back_ev, bg_nil, bg_cons, bs_no, bs_val, bs_own, bsf_some, bsf_none, b1_nil, b1_val, b1_own, iApp_ev, ap1_list, apF_list, iExU_ev, exF_list, exV_new, exV_tup, iPop_ev, po_snoc, iStL_ev, iFrz_ev, fz_own, fz_val, iRev_ev, gRev_list, gRev_tup, iSeqI_ev, iRevI_ev, iEnumU_ev, iR1_ev, turn_ev, at0, at1, at2, ix0, ix1, ix2, gAdd_int, gAdd_str, gAdd_tup, gSub_int, gMul_int, gMulR_int, gMulL_int, gDiv_int, gMod_int, gPow_int, gNeg_int, gLt_int, gLe_int, gGt_int, gGe_int, gEq_int, gNe_int, gEq_str, gNe_str, gEq_bool, gNe_bool, gIs_ap, gIsN_ap, isNone_none, isNone_int, isNone_tup, isNone_str, gIx_list, gIx_tup, gSl_tup, gSl_list, c1_ap, gLen_list, gLen_tup, gInt_int, gList_list, gList_tup, gTuple_list, gTuple_tup, truD_none, truD_bool, truD_int, truD_list, truD_tup, isi_int_int, isi_int_tup, isi_bool_bool, isi_tup_tup, isi_list_list, isi_bool_int, Option.bind_some, Option.map_some, List.getElem?_cons_zero, List.getElem?_cons_succ, List.set_cons_zero, List.set_cons_succ, List.length_cons, List.length_nil, if_true, reduceIte, decide_true, decide_false, Bool.true_and, Bool.and_true, Bool.not_true, Bool.not_false, Bool.false_eq_true, Bool.not_eq_true, decide_eq_true_eq, Nat.reduceAdd, Nat.reduceLeDiff, Nat.reduceEqDiff, Nat.reduceSub, Nat.reduceMul, Int.reduceLT, Int.reduceLE, Int.reduceEq, Int.reduceAdd, Int.reduceSub, Int.reduceMul, Int.reduceNeg, Int.reduceToNat, Int.reducePow, and_self, eq_self, and_true, true_and, Nat.reduceBEq, ncast, DL.sm, List.length_map, List.cons_append, List.nil_append, h1, h2, z, h3, h4]
            exact ⟨_, _, _, run_ret (n := 3) (N := 6) (sls := TA depth bd a b rs) e rfl, ⟨_, _, rfl⟩, pr2⟩
          · conv at e => rhs; simp only [m__law_tree, iSeq_ev, sq_next, sq_ret, sq_brk, sq_cont, iNext_ev, iAsg_ev, as_val, as_new_t, as_new_f, setV_ev, set_no, set_val, set_own, iVar_ev, va_val, va_own, look_ev, lo_own, look_val, look_new, vis_val, vis_new, pub_val, pub_new, pub_own, opd_ap, iCon_ap, iBin_ap, iUn_ap, argN_ap, argC_ap, looks_nil, looks_cons, viss_nil, viss_cons, iCB_ap, iTup_ap, iLst_ap, isB_ap, isI_ap, iTst_ap, iTru_ap, iNotT_ap, iAndT_ap, iOrT_ap, iAnd_ap, iOr_ap, iNot_ap, iIf_ap, iSl_ap, iNoP_ap, iPart_ap, iIsi_ap, iIfS_ev, iRet_ev, ret_val', ret_new', ret_own', ro_own, iRetN_ev, iDrop_ev, iBrk_ev, iCont_ev, iBef_ev, iAft_ev, wfl_next, wfl_cont, wfl_brk, wfl_ret, wipe_nil, wipe_cons, wp_no, wp_val, wp_own, iNm_ev, iGT_tup, iGT_list, iGN_ev, iGC_ev, iAsgT_ev, iCall_ev, sls_nil, sls_val, sls_own, dup_nil, dup_val, dup_own, has_nil, has_val, has_own, now_val, now_new, back_ev, bg_nil, bg_cons, bs_no, bs_val, bs_own, bsf_some, bsf_none, b1_nil, b1_val, b1_own, iApp_ev, ap1_list, apF_list, iExU_ev, exF_list, exV_new, exV_tup, iPop_ev, po_snoc, iStL_ev, iFrz_ev, fz_own, fz_val, iRev_ev, gRev_list, gRev_tup, iSeqI_ev, iRevI_ev, iEnumU_ev, iR1_ev, turn_ev, at0, at1, at2, ix0, ix1, ix2, gAdd_int, gAdd_str, gAdd_tup, gSub_int, gMul_int, gMulR_int, gMulL_int, gDiv_int, gMod_int, gPow_int, gNeg_int, gLt_int, gLe_int, gGt_int, gGe_int, gEq_int, gNe_int, gEq_str, gNe_str, gEq_bool, gNe_bool, gIs_ap, gIsN_ap, isNone_none, isNone_int, isNone_tup, isNone_str, gIx_list, gIx_tup, gSl_tup, gSl_list, c1_ap, gLen_list, gLen_tup, gInt_int, gList_list, gList_tup, gTuple_list, gTuple_tup, truD_none, truD_bool, truD_int, truD_list, truD_tup, isi_int_int, isi_int_tup, isi_bool_bool, isi_tup_tup, isi_list_list, isi_bool_int, Option.bind_some, Option.map_some, List.getElem?_cons_zero, List.getElem?_cons_succ, List.set_cons_zero, List.set_cons_succ, List.length_cons, List.length_nil, if_true, reduceIte, decide_true, decide_false, Bool.true_and, Bool.and_true, Bool.not_true, Bool.not_false, Bool.false_eq_true, Bool.not_eq_true, decide_eq_true_eq, Nat.reduceAdd, Nat.reduceLeDiff, Nat.reduceEqDiff, Nat.reduceSub, Nat.reduceMul, Int.reduceLT, Int.reduceLE, Int.reduceEq, Int.reduceAdd, Int.reduceSub, Int.reduceMul, Int.reduceNeg, Int.reduceToNat, Int.reducePow, and_self, eq_self, and_true, true_and, Nat.reduceBEq, ncast, DL.sm, List.length_map, List.cons_append, List.nil_append, h1, h2, z, h3, h4, p1, p2]
            exact ⟨_, _, _, run_ret (n := 3) (N := 6) (sls := TA depth bd a b rs) e rfl, ⟨_, _, rfl⟩, pr3⟩
      · by_cases p1 : k2 = 0
        · subst p1
          conv at e => rhs; simp only [m__law_tree, iSeq_ev, sq_next, sq_ret, sq_brk, sq_cont, iNext_ev, iAsg_ev, as_val, as_new_t, as_new_f, setV_ev, set_no, set_val, set_own, iVar_ev, va_val, va_own, look_ev, lo_own, look_val, look_new, vis_val, vis_new, pub_val, pub_new, pub_own, opd_ap, iCon_ap, iBin_ap, iUn_ap, argN_ap, argC_ap, looks_nil, looks_cons, viss_nil, viss_cons, iCB_ap, iTup_ap, iLst_ap, isB_ap, isI_ap, iTst_ap, iTru_ap, iNotT_ap, iAndT_ap, iOrT_ap, iAnd_ap, iOr_ap, iNot_ap, iIf_ap, iSl_ap, iNoP_ap, iPart_ap, iIsi_ap, iIfS_ev, iRet_ev, ret_val', ret_new', ret_own', ro_own, iRetN_ev, iDrop_ev, iBrk_ev, iCont_ev, iBef_ev, iAft_ev, wfl_next, wfl_cont, wfl_brk, wfl_ret, wipe_nil, wipe_cons, wp_no, wp_val, wp_own, iNm_ev, iGT_tup, iGT_list, iGN_ev, iGC_ev, iAsgT_ev, iCall_ev, sls_nil, sls_val, sls_own, dup_nil, dup_val, dup_own, has_nil, has_val, has_own, now_val, now_new, back_ev, bg_nil, bg_cons, bs_no, bs_val, bs_own, bsf_some, bsf_none, b1_nil, b1_val, b1_own, iApp_ev, ap1_list, apF_list, iExU_ev, exF_list, exV_new, exV_tup, iPop_ev, po_snoc, iStL_ev, iFrz_ev, fz_own, fz_val, iRev_ev, gRev_list, gRev_tup, iSeqI_ev, iRevI_ev, iEnumU_ev, iR1_ev, turn_ev, at0, at1, at2, ix0, ix1, ix2, gAdd_int, gAdd_str, gAdd_tup, gSub_int, gMul_int, gMulR_int, gMulL_int, gDiv_int, gMod_int, gPow_int, gNeg_int, gLt_int, gLe_int, gGt_int, gGe_int, gEq_int, gNe_int, gEq_str, gNe_str, gEq_bool, gNe_bool, gIs_ap, gIsN_ap, isNone_none, isNone_int, isNone_tup, isNone_str, gIx_list, gIx_tup, gSl_tup, gSl_list, c1_ap, gLen_list, gLen_tup, gInt_int, gList_list, gList_tup, gTuple_list, gTuple_tup, truD_none, truD_bool, truD_int, truD_list, truD_tup, isi_int_int, isi_int_tup, isi_bool_bool, isi_tup_tup, isi_list_list, isi_bool_int, Option.bind_some, Option.map_some, List.getElem?_cons_zero, List.getElem?_cons_succ, List.set_cons_zero, List.set_cons_succ, List.length_cons, List.length_nil, if_true, reduceIte, decide_true, decide_false, Bool.true_and, Bool.and_true, Bool.not_true, Bool.not_false, Bool.false_eq_true, Bool.not_eq_true, decide_eq_true_eq, Nat.reduceAdd, Nat.reduceLeDiff, Nat.reduceEqDiff, Nat.reduceSub, Nat.reduceMul, Int.reduceLT, Int.reduceLE, Int.reduceEq, Int.reduceAdd, Int.reduceSub, Int.reduceMul, Int.reduceNeg, Int.reduceToNat, Int.reducePow, and_self, eq_self, and_true, true_and, Nat.reduceBEq, ncast, DL.sm, List.length_map, List.cons_append, List.nil_append, h1, h2, z, z2]
          exact ⟨_, _, _, run_ret (n := 3) (N := 6) (sls := TA depth bd a b rs) e rfl, ⟨_, _, rfl⟩, pr1⟩
        · by_cases p2 : k2 = 1
          · subst p2
            conv at e => rhs; simp only [m__law_tree, iSeq_ev, sq_next, sq_ret, sq_brk, sq_cont, iNext_ev, iAsg_ev, as_val, as_new_t, as_new_f, setV_ev, set_no, set_val, set_own, iVar_ev, va_val, va_own, look_ev, lo_own, look_val, look_new, vis_val, vis_new, pub_val, pub_new, pub_own, opd_ap, iCon_ap, iBin_ap, iUn_ap, argN_ap, argC_ap, looks_nil, looks_cons, viss_nil, viss_cons, iCB_ap, iTup_ap, iLst_ap, isB_ap, isI_ap, iTst_ap, iTru_ap, iNotT_ap, iAndT_ap, iOrT_ap, iAnd_ap, iOr_ap, iNot_ap, iIf_ap, iSl_ap, iNoP_ap, iPart_ap, iIsi_ap, iIfS_ev, iRet_ev, ret_val', ret_new', ret_own', ro_own, iRetN_ev, iDrop_ev, iBrk_ev, iCont_ev, iBef_ev, iAft_ev, wfl_next, wfl_cont, wfl_brk, wfl_ret, wipe_nil, wipe_cons, wp_no, wp_val, wp_own, iNm_ev, iGT_tup, iGT_list, iGN_ev, iGC_ev, iAsgT_ev, iCall_ev, sls_nil, sls_val, sls_own, dup_nil, dup_val, dup_own, has_nil, has_val, has_own, now_val, now_new, back_ev, bg_nil, bg_cons, bs_no, bs_val, bs_own, bsf_some, bsf_none, b1_nil, b1_val, b1_own, iApp_ev, ap1_list, apF_list, iExU_ev, exF_list, exV_new, exV_tup, iPop_ev, po_snoc, iStL_ev, iFrz_ev, fz_own, fz_val, iRev_ev, gRev_list, gRev_tup, iSeqI_ev, iRevI_ev, iEnumU_ev, iR1_ev, turn_ev, at0, at1, at2, ix0, ix1, ix2, gAdd_int, gAdd_str, gAdd_tup, gSub_int, gMul_int, gMulR_int, gMulL_int, gDiv_int, gMod_int, gPow_int, gNeg_int, gLt_int, gLe_int, gGt_int, gGe_int, gEq_int, gNe_int, gEq_str, gNe_str, gEq_bool, gNe_bool, gIs_ap, gIsN_ap, isNone_none, isNone_int, isNone_tup, isNone_str, gIx_list, gIx_tup, gSl_tup, gSl_list, c1_ap, gLen_list, gLen_tup, gInt_int, gList_list, gList_tup, gTuple_list, gTuple_tup, truD_none, truD_bool, truD_int, truD_list, truD_tup, isi_int_int, isi_int_tup, isi_bool_bool, isi_tup_tup, isi_list_list, isi_bool_int, Option.bind_some, Option.map_some, List.getElem?_cons_zero, List.getElem?_cons_succ, List.set_cons_zero, List.set_cons_succ, List.length_cons, List.length_nil, if_true, reduceIte, decide_true, decide_false, Bool.true_and, Bool.and_true, Bool.not_true, Bool.not_false, Bool.false_eq_true, Bool.not_eq_true, decide_eq_true_eq, Nat.reduceAdd, Nat.reduceLeDiff, Nat.reduceEqDiff, Nat.reduceSub, Nat.reduceMul, Int.reduceLT, Int.reduceLE, Int.reduceEq, Int.reduceAdd, Int.reduceSub, Int.reduceMul, Int.reduceNeg, Int.reduceToNat, Int.reducePow, and_self, eq_self, and_true, true_and, Nat.reduceBEq, ncast, DL.sm, List.length_map, List.cons_append, List.nil_append, h1, h2, z, z2, h3, h4]
            exact ⟨_, _, _, run_ret (n := 3) (N := 6) (sls := TA depth bd a b rs) e rfl, ⟨_, _, rfl⟩, pr2⟩
          · conv at e => rhs; simp only [m__law_tree, iSeq_ev, sq_next, sq_ret, sq_brk, sq_cont, iNext_ev, iAsg_ev, as_val, as_new_t, as_new_f, setV_ev, set_no, set_val, set_own, iVar_ev, va_val, va_own, look_ev, lo_own, look_val, look_new, vis_val, vis_new, pub_val, pub_new, pub_own, opd_ap, iCon_ap, iBin_ap, iUn_ap, argN_ap, argC_ap, looks_nil, looks_cons, viss_nil, viss_cons, iCB_ap, iTup_ap, iLst_ap, isB_ap, isI_ap, iTst_ap, iTru_ap, iNotT_ap, iAndT_ap, iOrT_ap, iAnd_ap, iOr_ap, iNot_ap, iIf_ap, iSl_ap, iNoP_ap, iPart_ap, iIsi_ap, iIfS_ev, iRet_ev, ret_val', ret_new', ret_own', ro_own, iRetN_ev, iDrop_ev, iBrk_ev, iCont_ev, iBef_ev, iAft_ev, wfl_next, wfl_cont, wfl_brk, wfl_ret, wipe_nil, wipe_cons, wp_no, wp_val, wp_own, iNm_ev, iGT_tup, iGT_list, iGN_ev, iGC_ev, iAsgT_ev, iCall_ev, sls_nil, sls_val, sls_own, dup_nil, dup_val, dup_own, has_nil, has_val, has_own, now_val, now_new, back_ev, bg_nil, bg_cons, bs_no, bs_val, bs_own, bsf_some, bsf_none, b1_nil, b1_val, b1_own, iApp_ev, ap1_list, apF_list, iExU_ev, exF_list, exV_new, exV_tup, iPop_ev, po_snoc, iStL_ev, iFrz_ev, fz_own, fz_val, iRev_ev, gRev_list, gRev_tup, iSeqI_ev, iRevI_ev, iEnumU_ev, iR1_ev, turn_ev, at0, at1, at2, ix0, ix1, ix2, gAdd_int, gAdd_str, gAdd_tup, gSub_int, gMul_int, gMulR_int, gMulL_int, gDiv_int, gMod_int, gPow_int, gNeg_int, gLt_int, gLe_int, gGt_int, gGe_int, gEq_int, gNe_int, gEq_str, gNe_str, gEq_bool, gNe_bool, gIs_ap, gIsN_ap, isNone_none, isNone_int, isNone_tup, isNone_str, gIx_list, gIx_tup, gSl_tup, gSl_list, c1_ap, gLen_list, gLen_tup, gInt_int, gList_list, gList_tup, gTuple_list, gTuple_tup, truD_none, truD_bool, truD_int, truD_list, truD_tup, isi_int_int, isi_int_tup, isi_bool_bool, isi_tup_tup, isi_list_list, isi_bool_int, Option.bind_some, Option.map_some, List.getElem?_cons_zero, List.getElem?_cons_succ, List.set_cons_zero, List.set_cons_succ, List.length_cons, List.length_nil, if_true, reduceIte, decide_true, decide_false, Bool.true_and, Bool.and_true, Bool.not_true, Bool.not_false, Bool.false_eq_true, Bool.not_eq_true, decide_eq_true_eq, Nat.reduceAdd, Nat.reduceLeDiff, Nat.reduceEqDiff, Nat.reduceSub, Nat.reduceMul, Int.reduceLT, Int.reduceLE, Int.reduceEq, Int.reduceAdd, Int.reduceSub, Int.reduceMul, Int.reduceNeg, Int.reduceToNat, Int.reducePow, and_self, eq_self, and_true, true_and, Nat.reduceBEq, ncast, DL.sm, List.length_map, List.cons_append, List.nil_append, h1, h2, z, z2, h3, h4, p1, p2]
            exact ⟨_, _, _, run_ret (n := 3) (N := 6) (sls := TA depth bd a b rs) e rfl, ⟨_, _, rfl⟩, pr3⟩
    · obtain ⟨dd, rfl⟩ : ∃ dd, depth = dd + 1 := ⟨depth - 1, by omega⟩
      have ed : (((dd + 1 : Nat) : Int) - 1) = (dd : Int) := by omega
      have z : ¬ ((dd + 1 : Nat) : Int) = 0 := by omega
      have z2 : ¬ k < 3 := by omega
      by_cases p1 : k = 3
      · obtain ⟨d, a3, b3, h3, ⟨w, xs, hw⟩, pd⟩ := ih dd bd a1 b1 rs (by omega) hb0 (by omega) hr
        conv at e => rhs; simp only [m__law_tree, iSeq_ev, sq_next, sq_ret, sq_brk, sq_cont, iNext_ev, iAsg_ev, as_val, as_new_t, as_new_f, setV_ev, set_no, set_val, set_own, iVar_ev, va_val, va_own, look_ev, lo_own, look_val, look_new, vis_val, vis_new, pub_val, pub_new, pub_own, opd_ap, iCon_ap, iBin_ap, iUn_ap, argN_ap, argC_ap, looks_nil, looks_cons, viss_nil, viss_cons, iCB_ap, iTup_ap, iLst_ap, isB_ap, isI_ap, iTst_ap, iTru_ap, iNotT_ap, iAndT_ap, iOrT_ap, iAnd_ap, iOr_ap, iNot_ap, iIf_ap, iSl_ap, iNoP_ap, iPart_ap, iIsi_ap, iIfS_ev, iRet_ev, ret_val', ret_new', ret_own', ro_own, iRetN_ev, iDrop_ev, iBrk_ev, iCont_ev, iBef_ev, iAft_ev, wfl_next, wfl_cont, wfl_brk, wfl_ret, wipe_nil, wipe_cons, wp_no, wp_val, wp_own, iNm_ev, iGT_tup, iGT_list, iGN_ev, iGC_ev, iAsgT_ev, iCall_ev, sls_nil, sls_val, sls_own, dup_nil, dup_val, dup_own, has_nil, has_val, has_own, now_val, now_new, back_ev, bg_nil, bg_cons, bs_no, bs_val, bs_own, bsf_some, bsf_none, b1_nil, b1_val, b1_own, iApp_ev, ap1_list, apF_list, iExU_ev, exF_list, exV_new, exV_tup, iPop_ev, po_snoc, iStL_ev, iFrz_ev, fz_own, fz_val, iRev_ev, gRev_list, gRev_tup, iSeqI_ev, iRevI_ev, iEnumU_ev, iR1_ev, turn_ev, at0, at1, at2, ix0, ix1, ix2, gAdd_int, gAdd_str, gAdd_tup, gSub_int, gMul_int, gMulR_int, gMulL_int, gDiv_int, gMod_int, gPow_int, gNeg_int, gLt_int, gLe_int, gGt_int, gGe_int, gEq_int, gNe_int, gEq_str, gNe_str, gEq_bool, gNe_bool, gIs_ap, gIsN_ap, isNone_none, isNone_int, isNone_tup, isNone_str, gIx_list, gIx_tup, gSl_tup, gSl_list, c1_ap, gLen_list, gLen_tup, gInt_int, gList_list, gList_tup, gTuple_list, gTuple_tup, truD_none, truD_bool, truD_int, truD_list, truD_tup, isi_int_int, isi_int_tup, isi_bool_bool, isi_tup_tup, isi_list_list, isi_bool_int, Option.bind_some, Option.map_some, List.getElem?_cons_zero, List.getElem?_cons_succ, List.set_cons_zero, List.set_cons_succ, List.length_cons, List.length_nil, if_true, reduceIte, decide_true, decide_false, Bool.true_and, Bool.and_true, Bool.not_true, Bool.not_false, Bool.false_eq_true, Bool.not_eq_true, decide_eq_true_eq, Nat.reduceAdd, Nat.reduceLeDiff, Nat.reduceEqDiff, Nat.reduceSub, Nat.reduceMul, Int.reduceLT, Int.reduceLE, Int.reduceEq, Int.reduceAdd, Int.reduceSub, Int.reduceMul, Int.reduceNeg, Int.reduceToNat, Int.reducePow, and_self, eq_self, and_true, true_and, Nat.reduceBEq, ncast, DL.sm, List.length_map, List.cons_append, List.nil_append, h1, z, z2, p1, ed, h3]
        exact ⟨_, _, _, run_ret (n := 3) (N := 6) (sls := TA (dd + 1) bd a b rs) e rfl, ⟨_, _, rfl⟩, (Py.tuple (.cons (.str (by decide +kernel)) (.cons pd .nil))).mono (by omega)⟩
      · by_cases p2 : k < 6
        · obtain ⟨k2, a2, b2, h2, q0, q1⟩ := digit_eq (a := a1) (b := b1) (m := 2) (by omega) (by omega) hr
          obtain ⟨w, hw, ok⟩ := at_as k2 q0 q1
          obtain ⟨d, a3, b3, h3, _, pd⟩ := ih dd (bd + 1) a2 b2 rs (by omega) (by omega) (by omega) hr
          conv at e => rhs; simp only [m__law_tree, iSeq_ev, sq_next, sq_ret, sq_brk, sq_cont, iNext_ev, iAsg_ev, as_val, as_new_t, as_new_f, setV_ev, set_no, set_val, set_own, iVar_ev, va_val, va_own, look_ev, lo_own, look_val, look_new, vis_val, vis_new, pub_val, pub_new, pub_own, opd_ap, iCon_ap, iBin_ap, iUn_ap, argN_ap, argC_ap, looks_nil, looks_cons, viss_nil, viss_cons, iCB_ap, iTup_ap, iLst_ap, isB_ap, isI_ap, iTst_ap, iTru_ap, iNotT_ap, iAndT_ap, iOrT_ap, iAnd_ap, iOr_ap, iNot_ap, iIf_ap, iSl_ap, iNoP_ap, iPart_ap, iIsi_ap, iIfS_ev, iRet_ev, ret_val', ret_new', ret_own', ro_own, iRetN_ev, iDrop_ev, iBrk_ev, iCont_ev, iBef_ev, iAft_ev, wfl_next, wfl_cont, wfl_brk, wfl_ret, wipe_nil, wipe_cons, wp_no, wp_val, wp_own, iNm_ev, iGT_tup, iGT_list, iGN_ev, iGC_ev, iAsgT_ev, iCall_ev, sls_nil, sls_val, sls_own, dup_nil, dup_val, dup_own, has_nil, has_val, has_own, now_val, now_new, back_ev, bg_nil, bg_cons, bs_no, bs_val, bs_own, bsf_some, bsf_none, b1_nil, b1_val, b1_own, iApp_ev, ap1_list, apF_list, iExU_ev, exF_list, exV_new, exV_tup, iPop_ev, po_snoc, iStL_ev, iFrz_ev, fz_own, fz_val, iRev_ev, gRev_list, gRev_tup, iSeqI_ev, iRevI_ev, iEnumU_ev, iR1_ev, turn_ev, at0, at1, at2, ix0, ix1, ix2, gAdd_int, gAdd_str, gAdd_tup, gSub_int, gMul_int, gMulR_int, gMulL_int, gDiv_int, gMod_int, gPow_int, gNeg_int, gLt_int, gLe_int, gGt_int, gGe_int, gEq_int, gNe_int, gEq_str, gNe_str, gEq_bool, gNe_bool, gIs_ap, gIsN_ap, isNone_none, isNone_int, isNone_tup, isNone_str, gIx_list, gIx_tup, gSl_tup, gSl_list, c1_ap, gLen_list, gLen_tup, gInt_int, gList_list, gList_tup, gTuple_list, gTuple_tup, truD_none, truD_bool, truD_int, truD_list, truD_tup, isi_int_int, isi_int_tup, isi_bool_bool, isi_tup_tup, isi_list_list, isi_bool_int, Option.bind_some, Option.map_some, List.getElem?_cons_zero, List.getElem?_cons_succ, List.set_cons_zero, List.set_cons_succ, List.length_cons, List.length_nil, if_true, reduceIte, decide_true, decide_false, Bool.true_and, Bool.and_true, Bool.not_true, Bool.not_false, Bool.false_eq_true, Bool.not_eq_true, decide_eq_true_eq, Nat.reduceAdd, Nat.reduceLeDiff, Nat.reduceEqDiff, Nat.reduceSub, Nat.reduceMul, Int.reduceLT, Int.reduceLE, Int.reduceEq, Int.reduceAdd, Int.reduceSub, Int.reduceMul, Int.reduceNeg, Int.reduceToNat, Int.reducePow, and_self, eq_self, and_true, true_and, Nat.reduceBEq, ncast, DL.sm, List.length_map, List.cons_append, List.nil_append, h1, z, z2, p1, p2, ed, h2, hw, h3]
          exact ⟨_, _, _, run_ret (n := 3) (N := 6) (sls := TA (dd + 1) bd a b rs) e rfl, ⟨_, _, rfl⟩, (Py.tuple (.cons (.str ok) (.cons .int (.cons pd .nil)))).mono (by omega)⟩
        · obtain ⟨k2, a2, b2, h2, q0, q1⟩ := digit_eq (a := a1) (b := b1) (m := 4) (by omega) (by omega) hr
          obtain ⟨w, hw, ok⟩ := at_aoii k2 q0 q1
          obtain ⟨d, a3, b3, h3, _, pd⟩ := ih dd bd a2 b2 rs (by omega) hb0 (by omega) hr
          obtain ⟨d2, a4, b4, h4, _, pd2⟩ := ih dd bd a3 b3 rs (by omega) hb0 (by omega) hr
          conv at e => rhs; simp only [m__law_tree, iSeq_ev, sq_next, sq_ret, sq_brk, sq_cont, iNext_ev, iAsg_ev, as_val, as_new_t, as_new_f, setV_ev, set_no, set_val, set_own, iVar_ev, va_val, va_own, look_ev, lo_own, look_val, look_new, vis_val, vis_new, pub_val, pub_new, pub_own, opd_ap, iCon_ap, iBin_ap, iUn_ap, argN_ap, argC_ap, looks_nil, looks_cons, viss_nil, viss_cons, iCB_ap, iTup_ap, iLst_ap, isB_ap, isI_ap, iTst_ap, iTru_ap, iNotT_ap, iAndT_ap, iOrT_ap, iAnd_ap, iOr_ap, iNot_ap, iIf_ap, iSl_ap, iNoP_ap, iPart_ap, iIsi_ap, iIfS_ev, iRet_ev, ret_val', ret_new', ret_own', ro_own, iRetN_ev, iDrop_ev, iBrk_ev, iCont_ev, iBef_ev, iAft_ev, wfl_next, wfl_cont, wfl_brk, wfl_ret, wipe_nil, wipe_cons, wp_no, wp_val, wp_own, iNm_ev, iGT_tup, iGT_list, iGN_ev, iGC_ev, iAsgT_ev, iCall_ev, sls_nil, sls_val, sls_own, dup_nil, dup_val, dup_own, has_nil, has_val, has_own, now_val, now_new, back_ev, bg_nil, bg_cons, bs_no, bs_val, bs_own, bsf_some, bsf_none, b1_nil, b1_val, b1_own, iApp_ev, ap1_list, apF_list, iExU_ev, exF_list, exV_new, exV_tup, iPop_ev, po_snoc, iStL_ev, iFrz_ev, fz_own, fz_val, iRev_ev, gRev_list, gRev_tup, iSeqI_ev, iRevI_ev, iEnumU_ev, iR1_ev, turn_ev, at0, at1, at2, ix0, ix1, ix2, gAdd_int, gAdd_str, gAdd_tup, gSub_int, gMul_int, gMulR_int, gMulL_int, gDiv_int, gMod_int, gPow_int, gNeg_int, gLt_int, gLe_int, gGt_int, gGe_int, gEq_int, gNe_int, gEq_str, gNe_str, gEq_bool, gNe_bool, gIs_ap, gIsN_ap, isNone_none, isNone_int, isNone_tup, isNone_str, gIx_list, gIx_tup, gSl_tup, gSl_list, c1_ap, gLen_list, gLen_tup, gInt_int, gList_list, gList_tup, gTuple_list, gTuple_tup, truD_none, truD_bool, truD_int, truD_list, truD_tup, isi_int_int, isi_int_tup, isi_bool_bool, isi_tup_tup, isi_list_list, isi_bool_int, Option.bind_some, Option.map_some, List.getElem?_cons_zero, List.getElem?_cons_succ, List.set_cons_zero, List.set_cons_succ, List.length_cons, List.length_nil, if_true, reduceIte, decide_true, decide_false, Bool.true_and, Bool.and_true, Bool.not_true, Bool.not_false, Bool.false_eq_true, Bool.not_eq_true, decide_eq_true_eq, Nat.reduceAdd, Nat.reduceLeDiff, Nat.reduceEqDiff, Nat.reduceSub, Nat.reduceMul, Int.reduceLT, Int.reduceLE, Int.reduceEq, Int.reduceAdd, Int.reduceSub, Int.reduceMul, Int.reduceNeg, Int.reduceToNat, Int.reducePow, and_self, eq_self, and_true, true_and, Nat.reduceBEq, ncast, DL.sm, List.length_map, List.cons_append, List.nil_append, h1, z, z2, p1, p2, ed, h2, hw, h3, h4]
          exact ⟨_, _, _, run_ret (n := 3) (N := 6) (sls := TA (dd + 1) bd a b rs) e rfl, ⟨_, _, rfl⟩, (Py.tuple (.cons (.str ok) (.cons pd (.cons pd2 .nil)))).mono (by omega)⟩
/-! quantifiers around -/
def wrap (w : Str) (vs : List Int) (f : D) : D := vs.foldr (fun v acc => .tuple [.str w, .int v, acc]) f
theorem wrap_fold (w : Str) (vs : List Int) (f : D) : vs.reverse.foldl (fun acc (v : Int) => D.tuple [.str w, .int v, acc]) f = wrap w vs f := by
  unfold wrap
  rw [List.foldl_reverse]
theorem wrap_py {w : Str} (ok : PyData.strOk w = true) {n : Nat} {f : D} (h : Py n f) : ∀ vs : List Int, Py (n + vs.length) (wrap w vs f)
  | [] => h
  | v :: vs => (Py.tuple (.cons (.str ok) (.cons .int (.cons (wrap_py ok h vs) .nil)))).mono (by rw [List.length_cons]; omega)
abbrev vl (vs : List Int) : D := .list (vs.map .int)
theorem rev_map (vs : List Int) : (vs.map D.int).reverse = vs.reverse.map D.int := by rw [List.map_reverse]
theorem quant_eq (w : Str) (vs : List Int) (f : D) : F_quantified [.val (.str w), .val (vl vs), .val f] = some (.val (wrap w vs f), [.val (.str w), .val (vl vs), .val f]) := by
  have hf := (floop_fold (tg := iNm 4) (s := b1_quantified) (dn := D.int) (fun a : D => [.val (.str w), .val (vl vs), .val f, .val a, .no]) (fun acc (v : Int) => D.tuple [.str w, .int v, acc]) (fun _ _ => True) (fun x xs st _ => by
    refine ⟨?_, trivial⟩
    simp only [b1_quantified, iSeq_ev, sq_next, sq_ret, sq_brk, sq_cont, iNext_ev, iAsg_ev, as_val, as_new_t, as_new_f, setV_ev, set_no, set_val, set_own, iVar_ev, va_val, va_own, look_ev, lo_own, look_val, look_new, vis_val, vis_new, pub_val, pub_new, pub_own, opd_ap, iCon_ap, iBin_ap, iUn_ap, argN_ap, argC_ap, looks_nil, looks_cons, viss_nil, viss_cons, iCB_ap, iTup_ap, iLst_ap, isB_ap, isI_ap, iTst_ap, iTru_ap, iNotT_ap, iAndT_ap, iOrT_ap, iAnd_ap, iOr_ap, iNot_ap, iIf_ap, iSl_ap, iNoP_ap, iPart_ap, iIsi_ap, iIfS_ev, iRet_ev, ret_val', ret_new', ret_own', ro_own, iRetN_ev, iDrop_ev, iBrk_ev, iCont_ev, iBef_ev, iAft_ev, wfl_next, wfl_cont, wfl_brk, wfl_ret, wipe_nil, wipe_cons, wp_no, wp_val, wp_own, iNm_ev, iGT_tup, iGT_list, iGN_ev, iGC_ev, iAsgT_ev, iCall_ev, sls_nil, sls_val, sls_own, dup_nil, dup_val, dup_own, has_nil, has_val, has_own, now_val, now_new, back_ev, bg_nil, bg_cons, bs_no, bs_val, bs_own, bsf_some, bsf_none, b1_nil, b1_val, b1_own, iApp_ev, ap1_list, apF_list, iExU_ev, exF_list, exV_new, exV_tup, iPop_ev, po_snoc, iStL_ev, iFrz_ev, fz_own, fz_val, iRev_ev, gRev_list, gRev_tup, iSeqI_ev, iRevI_ev, iEnumU_ev, iR1_ev, turn_ev, at0, at1, at2, ix0, ix1, ix2, gAdd_int, gAdd_str, gAdd_tup, gSub_int, gMul_int, gMulR_int, gMulL_int, gDiv_int, gMod_int, gPow_int, gNeg_int, gLt_int, gLe_int, gGt_int, gGe_int, gEq_int, gNe_int, gEq_str, gNe_str, gEq_bool, gNe_bool, gIs_ap, gIsN_ap, isNone_none, isNone_int, isNone_tup, isNone_str, gIx_list, gIx_tup, gSl_tup, gSl_list, c1_ap, gLen_list, gLen_tup, gInt_int, gList_list, gList_tup, gTuple_list, gTuple_tup, truD_none, truD_bool, truD_int, truD_list, truD_tup, isi_int_int, isi_int_tup, isi_bool_bool, isi_tup_tup, isi_list_list, isi_bool_int, Option.bind_some, Option.map_some, List.getElem?_cons_zero, List.getElem?_cons_succ, List.set_cons_zero, List.set_cons_succ, List.length_cons, List.length_nil, if_true, reduceIte, decide_true, decide_false, Bool.true_and, Bool.and_true, Bool.not_true, Bool.not_false, Bool.false_eq_true, Bool.not_eq_true, decide_eq_true_eq, Nat.reduceAdd, Nat.reduceLeDiff, Nat.reduceEqDiff, Nat.reduceSub, Nat.reduceMul, Int.reduceLT, Int.reduceLE, Int.reduceEq, Int.reduceAdd, Int.reduceSub, Int.reduceMul, Int.reduceNeg, Int.reduceToNat, Int.reducePow, and_self, eq_self, and_true, true_and, Nat.reduceBEq, ncast, DL.sm, List.length_map]) vs.reverse f trivial).1
  rw [wrap_fold] at hf
  have e := @rfl _ (m_quantified [.val (.str w), .val (vl vs), .val f, .no, .no])
  conv at e => rhs; simp only [m_quantified, iSeq_ev, sq_next, sq_ret, sq_brk, sq_cont, iNext_ev, iAsg_ev, as_val, as_new_t, as_new_f, setV_ev, set_no, set_val, set_own, iVar_ev, va_val, va_own, look_ev, lo_own, look_val, look_new, vis_val, vis_new, pub_val, pub_new, pub_own, opd_ap, iCon_ap, iBin_ap, iUn_ap, argN_ap, argC_ap, looks_nil, looks_cons, viss_nil, viss_cons, iCB_ap, iTup_ap, iLst_ap, isB_ap, isI_ap, iTst_ap, iTru_ap, iNotT_ap, iAndT_ap, iOrT_ap, iAnd_ap, iOr_ap, iNot_ap, iIf_ap, iSl_ap, iNoP_ap, iPart_ap, iIsi_ap, iIfS_ev, iRet_ev, ret_val', ret_new', ret_own', ro_own, iRetN_ev, iDrop_ev, iBrk_ev, iCont_ev, iBef_ev, iAft_ev, wfl_next, wfl_cont, wfl_brk, wfl_ret, wipe_nil, wipe_cons, wp_no, wp_val, wp_own, iNm_ev, iGT_tup, iGT_list, iGN_ev, iGC_ev, iAsgT_ev, iCall_ev, sls_nil, sls_val, sls_own, dup_nil, dup_val, dup_own, has_nil, has_val, has_own, now_val, now_new, back_ev, bg_nil, bg_cons, bs_no, bs_val, bs_own, bsf_some, bsf_none, b1_nil, b1_val, b1_own, iApp_ev, ap1_list, apF_list, iExU_ev, exF_list, exV_new, exV_tup, iPop_ev, po_snoc, iStL_ev, iFrz_ev, fz_own, fz_val, iRev_ev, gRev_list, gRev_tup, iSeqI_ev, iRevI_ev, iEnumU_ev, iR1_ev, turn_ev, at0, at1, at2, ix0, ix1, ix2, gAdd_int, gAdd_str, gAdd_tup, gSub_int, gMul_int, gMulR_int, gMulL_int, gDiv_int, gMod_int, gPow_int, gNeg_int, gLt_int, gLe_int, gGt_int, gGe_int, gEq_int, gNe_int, gEq_str, gNe_str, gEq_bool, gNe_bool, gIs_ap, gIsN_ap, isNone_none, isNone_int, isNone_tup, isNone_str, gIx_list, gIx_tup, gSl_tup, gSl_list, c1_ap, gLen_list, gLen_tup, gInt_int, gList_list, gList_tup, gTuple_list, gTuple_tup, truD_none, truD_bool, truD_int, truD_list, truD_tup, isi_int_int, isi_int_tup, isi_bool_bool, isi_tup_tup, isi_list_list, isi_bool_int, Option.bind_some, Option.map_some, List.getElem?_cons_zero, List.getElem?_cons_succ, List.set_cons_zero, List.set_cons_succ, List.length_cons, List.length_nil, if_true, reduceIte, decide_true, decide_false, Bool.true_and, Bool.and_true, Bool.not_true, Bool.not_false, Bool.false_eq_true, Bool.not_eq_true, decide_eq_true_eq, Nat.reduceAdd, Nat.reduceLeDiff, Nat.reduceEqDiff, Nat.reduceSub, Nat.reduceMul, Int.reduceLT, Int.reduceLE, Int.reduceEq, Int.reduceAdd, Int.reduceSub, Int.reduceMul, Int.reduceNeg, Int.reduceToNat, Int.reducePow, and_self, eq_self, and_true, true_and, Nat.reduceBEq, ncast, DL.sm, List.length_map, iFor_ev, rev_map, hf]
  exact run_ret (n := 3) (N := 5) (sls := [.val (.str w), .val (vl vs), .val f]) e rfl
theorem bound_eq (vs : List Int) (f : D) : F__law_bound [.val (vl vs), .val f] = some (.val (wrap "all" vs f), [.val (vl vs), .val f]) := by
  have hf := (floop_fold (tg := iNm 2) (s := b1__law_bound) (dn := D.int) (fun a : D => [.val (vl vs), .val a, .no]) (fun acc (v : Int) => D.tuple [.str "all", .int v, acc]) (fun _ _ => True) (fun x xs st _ => by
    refine ⟨?_, trivial⟩
    simp only [b1__law_bound, iSeq_ev, sq_next, sq_ret, sq_brk, sq_cont, iNext_ev, iAsg_ev, as_val, as_new_t, as_new_f, setV_ev, set_no, set_val, set_own, iVar_ev, va_val, va_own, look_ev, lo_own, look_val, look_new, vis_val, vis_new, pub_val, pub_new, pub_own, opd_ap, iCon_ap, iBin_ap, iUn_ap, argN_ap, argC_ap, looks_nil, looks_cons, viss_nil, viss_cons, iCB_ap, iTup_ap, iLst_ap, isB_ap, isI_ap, iTst_ap, iTru_ap, iNotT_ap, iAndT_ap, iOrT_ap, iAnd_ap, iOr_ap, iNot_ap, iIf_ap, iSl_ap, iNoP_ap, iPart_ap, iIsi_ap, iIfS_ev, iRet_ev, ret_val', ret_new', ret_own', ro_own, iRetN_ev, iDrop_ev, iBrk_ev, iCont_ev, iBef_ev, iAft_ev, wfl_next, wfl_cont, wfl_brk, wfl_ret, wipe_nil, wipe_cons, wp_no, wp_val, wp_own, iNm_ev, iGT_tup, iGT_list, iGN_ev, iGC_ev, iAsgT_ev, iCall_ev, sls_nil, sls_val, sls_own, dup_nil, dup_val, dup_own, has_nil, has_val, has_own, now_val, now_new, back_ev, bg_nil, bg_cons, bs_no, bs_val, bs_own, bsf_some, bsf_none, b1_nil, b1_val, b1_own, iApp_ev, ap1_list, apF_list, iExU_ev, exF_list, exV_new, exV_tup, iPop_ev, po_snoc, iStL_ev, iFrz_ev, fz_own, fz_val, iRev_ev, gRev_list, gRev_tup, iSeqI_ev, iRevI_ev, iEnumU_ev, iR1_ev, turn_ev, at0, at1, at2, ix0, ix1, ix2, gAdd_int, gAdd_str, gAdd_tup, gSub_int, gMul_int, gMulR_int, gMulL_int, gDiv_int, gMod_int, gPow_int, gNeg_int, gLt_int, gLe_int, gGt_int, gGe_int, gEq_int, gNe_int, gEq_str, gNe_str, gEq_bool, gNe_bool, gIs_ap, gIsN_ap, isNone_none, isNone_int, isNone_tup, isNone_str, gIx_list, gIx_tup, gSl_tup, gSl_list, c1_ap, gLen_list, gLen_tup, gInt_int, gList_list, gList_tup, gTuple_list, gTuple_tup, truD_none, truD_bool, truD_int, truD_list, truD_tup, isi_int_int, isi_int_tup, isi_bool_bool, isi_tup_tup, isi_list_list, isi_bool_int, Option.bind_some, Option.map_some, List.getElem?_cons_zero, List.getElem?_cons_succ, List.set_cons_zero, List.set_cons_succ, List.length_cons, List.length_nil, if_true, reduceIte, decide_true, decide_false, Bool.true_and, Bool.and_true, Bool.not_true, Bool.not_false, Bool.false_eq_true, Bool.not_eq_true, decide_eq_true_eq, Nat.reduceAdd, Nat.reduceLeDiff, Nat.reduceEqDiff, Nat.reduceSub, Nat.reduceMul, Int.reduceLT, Int.reduceLE, Int.reduceEq, Int.reduceAdd, Int.reduceSub, Int.reduceMul, Int.reduceNeg, Int.reduceToNat, Int.reducePow, and_self, eq_self, and_true, true_and, Nat.reduceBEq, ncast, DL.sm, List.length_map]) vs.reverse f trivial).1
  rw [wrap_fold] at hf
  have e := @rfl _ (m__law_bound [.val (vl vs), .val f, .no])
  conv at e => rhs; simp only [m__law_bound, iSeq_ev, sq_next, sq_ret, sq_brk, sq_cont, iNext_ev, iAsg_ev, as_val, as_new_t, as_new_f, setV_ev, set_no, set_val, set_own, iVar_ev, va_val, va_own, look_ev, lo_own, look_val, look_new, vis_val, vis_new, pub_val, pub_new, pub_own, opd_ap, iCon_ap, iBin_ap, iUn_ap, argN_ap, argC_ap, looks_nil, looks_cons, viss_nil, viss_cons, iCB_ap, iTup_ap, iLst_ap, isB_ap, isI_ap, iTst_ap, iTru_ap, iNotT_ap, iAndT_ap, iOrT_ap, iAnd_ap, iOr_ap, iNot_ap, iIf_ap, iSl_ap, iNoP_ap, iPart_ap, iIsi_ap, iIfS_ev, iRet_ev, ret_val', ret_new', ret_own', ro_own, iRetN_ev, iDrop_ev, iBrk_ev, iCont_ev, iBef_ev, iAft_ev, wfl_next, wfl_cont, wfl_brk, wfl_ret, wipe_nil, wipe_cons, wp_no, wp_val, wp_own, iNm_ev, iGT_tup, iGT_list, iGN_ev, iGC_ev, iAsgT_ev, iCall_ev, sls_nil, sls_val, sls_own, dup_nil, dup_val, dup_own, has_nil, has_val, has_own, now_val, now_new, back_ev, bg_nil, bg_cons, bs_no, bs_val, bs_own, bsf_some, bsf_none, b1_nil, b1_val, b1_own, iApp_ev, ap1_list, apF_list, iExU_ev, exF_list, exV_new, exV_tup, iPop_ev, po_snoc, iStL_ev, iFrz_ev, fz_own, fz_val, iRev_ev, gRev_list, gRev_tup, iSeqI_ev, iRevI_ev, iEnumU_ev, iR1_ev, turn_ev, at0, at1, at2, ix0, ix1, ix2, gAdd_int, gAdd_str, gAdd_tup, gSub_int, gMul_int, gMulR_int, gMulL_int, gDiv_int, gMod_int, gPow_int, gNeg_int, gLt_int, gLe_int, gGt_int, gGe_int, gEq_int, gNe_int, gEq_str, gNe_str, gEq_bool, gNe_bool, gIs_ap, gIsN_ap, isNone_none, isNone_int, isNone_tup, isNone_str, gIx_list, gIx_tup, gSl_tup, gSl_list, c1_ap, gLen_list, gLen_tup, gInt_int, gList_list, gList_tup, gTuple_list, gTuple_tup, truD_none, truD_bool, truD_int, truD_list, truD_tup, isi_int_int, isi_int_tup, isi_bool_bool, isi_tup_tup, isi_list_list, isi_bool_int, Option.bind_some, Option.map_some, List.getElem?_cons_zero, List.getElem?_cons_succ, List.set_cons_zero, List.set_cons_succ, List.length_cons, List.length_nil, if_true, reduceIte, decide_true, decide_false, Bool.true_and, Bool.and_true, Bool.not_true, Bool.not_false, Bool.false_eq_true, Bool.not_eq_true, decide_eq_true_eq, Nat.reduceAdd, Nat.reduceLeDiff, Nat.reduceEqDiff, Nat.reduceSub, Nat.reduceMul, Int.reduceLT, Int.reduceLE, Int.reduceEq, Int.reduceAdd, Int.reduceSub, Int.reduceMul, Int.reduceNeg, Int.reduceToNat, Int.reducePow, and_self, eq_self, and_true, true_and, Nat.reduceBEq, ncast, DL.sm, List.length_map, iFor_ev, rev_map, hf]
  exact run_ret (n := 2) (N := 3) (sls := [.val (vl vs), .val f]) e rfl
theorem sought_loop {f0 : D} {w : Str} {xs : List D} (hw : ¬ w = "some") {c : EvT} (hc : c = iTst (iBin gEq (iBin gIx (iVar 2) (iCon (.int 0))) (iCon (.str "some")))) : ∀ (vs acc : List Int) (n : Nat), vs.length < n → acc.length + vs.length < 1000 →
    wloop c b1_sought n [.val f0, .own false (vl acc), .val (wrap "some" vs (.tuple (.str w :: xs)))] = some (.next [.val f0, .own false (vl (acc ++ vs)), .val (.tuple (.str w :: xs))])
  | [], acc, n, hn, _ => by
    rw [List.append_nil]
    refine wl_false ?_ (by omega)
    subst hc
    simp only [wrap, List.foldr_nil, iSeq_ev, sq_next, sq_ret, sq_brk, sq_cont, iNext_ev, iAsg_ev, as_val, as_new_t, as_new_f, setV_ev, set_no, set_val, set_own, iVar_ev, va_val, va_own, look_ev, lo_own, look_val, look_new, vis_val, vis_new, pub_val, pub_new, pub_own, opd_ap, iCon_ap, iBin_ap, iUn_ap, argN_ap, argC_ap, looks_nil, looks_cons, viss_nil, viss_cons, iCB_ap, iTup_ap, iLst_ap, isB_ap, isI_ap, iTst_ap, iTru_ap, iNotT_ap, iAndT_ap, iOrT_ap, iAnd_ap, iOr_ap, iNot_ap, iIf_ap, iSl_ap, iNoP_ap, iPart_ap, iIsi_ap, iIfS_ev, iRet_ev, ret_val', ret_new', ret_own', ro_own, iRetN_ev, iDrop_ev, iBrk_ev, iCont_ev, iBef_ev, iAft_ev, wfl_next, wfl_cont, wfl_brk, wfl_ret, wipe_nil, wipe_cons, wp_no, wp_val, wp_own, iNm_ev, iGT_tup, iGT_list, iGN_ev, iGC_ev, iAsgT_ev, iCall_ev, sls_nil, sls_val, sls_own, dup_nil, dup_val, dup_own, has_nil, has_val, has_own, now_val, now_new, back_ev, bg_nil, bg_cons, bs_no, bs_val, bs_own, bsf_some, bsf_none, b1_nil, b1_val, b1_own, iApp_ev, ap1_list, apF_list, iExU_ev, exF_list, exV_new, exV_tup, iPop_ev, po_snoc, iStL_ev, iFrz_ev, fz_own, fz_val, iRev_ev, gRev_list, gRev_tup, iSeqI_ev, iRevI_ev, iEnumU_ev, iR1_ev, turn_ev, at0, at1, at2, ix0, ix1, ix2, gAdd_int, gAdd_str, gAdd_tup, gSub_int, gMul_int, gMulR_int, gMulL_int, gDiv_int, gMod_int, gPow_int, gNeg_int, gLt_int, gLe_int, gGt_int, gGe_int, gEq_int, gNe_int, gEq_str, gNe_str, gEq_bool, gNe_bool, gIs_ap, gIsN_ap, isNone_none, isNone_int, isNone_tup, isNone_str, gIx_list, gIx_tup, gSl_tup, gSl_list, c1_ap, gLen_list, gLen_tup, gInt_int, gList_list, gList_tup, gTuple_list, gTuple_tup, truD_none, truD_bool, truD_int, truD_list, truD_tup, isi_int_int, isi_int_tup, isi_bool_bool, isi_tup_tup, isi_list_list, isi_bool_int, Option.bind_some, Option.map_some, List.getElem?_cons_zero, List.getElem?_cons_succ, List.set_cons_zero, List.set_cons_succ, List.length_cons, List.length_nil, if_true, reduceIte, decide_true, decide_false, Bool.true_and, Bool.and_true, Bool.not_true, Bool.not_false, Bool.false_eq_true, Bool.not_eq_true, decide_eq_true_eq, Nat.reduceAdd, Nat.reduceLeDiff, Nat.reduceEqDiff, Nat.reduceSub, Nat.reduceMul, Int.reduceLT, Int.reduceLE, Int.reduceEq, Int.reduceAdd, Int.reduceSub, Int.reduceMul, Int.reduceNeg, Int.reduceToNat, Int.reducePow, and_self, eq_self, and_true, true_and, Nat.reduceBEq, ncast, DL.sm, List.length_map, hw]
  | v :: vs, acc, 0, hn, _ => by omega
  | v :: vs, acc, n + 1, hn, hl => by
    rw [List.length_cons] at hn hl
    have h1 : c [.val f0, .own false (vl acc), .val (wrap "some" (v :: vs) (.tuple (.str w :: xs)))] = some (true, [.val f0, .own false (vl acc), .val (wrap "some" (v :: vs) (.tuple (.str w :: xs)))]) := by
      subst hc
      simp only [wrap, List.foldr_cons, iSeq_ev, sq_next, sq_ret, sq_brk, sq_cont, iNext_ev, iAsg_ev, as_val, as_new_t, as_new_f, setV_ev, set_no, set_val, set_own, iVar_ev, va_val, va_own, look_ev, lo_own, look_val, look_new, vis_val, vis_new, pub_val, pub_new, pub_own, opd_ap, iCon_ap, iBin_ap, iUn_ap, argN_ap, argC_ap, looks_nil, looks_cons, viss_nil, viss_cons, iCB_ap, iTup_ap, iLst_ap, isB_ap, isI_ap, iTst_ap, iTru_ap, iNotT_ap, iAndT_ap, iOrT_ap, iAnd_ap, iOr_ap, iNot_ap, iIf_ap, iSl_ap, iNoP_ap, iPart_ap, iIsi_ap, iIfS_ev, iRet_ev, ret_val', ret_new', ret_own', ro_own, iRetN_ev, iDrop_ev, iBrk_ev, iCont_ev, iBef_ev, iAft_ev, wfl_next, wfl_cont, wfl_brk, wfl_ret, wipe_nil, wipe_cons, wp_no, wp_val, wp_own, iNm_ev, iGT_tup, iGT_list, iGN_ev, iGC_ev, iAsgT_ev, iCall_ev, sls_nil, sls_val, sls_own, dup_nil, dup_val, dup_own, has_nil, has_val, has_own, now_val, now_new, back_ev, bg_nil, bg_cons, bs_no, bs_val, bs_own, bsf_some, bsf_none, b1_nil, b1_val, b1_own, iApp_ev, ap1_list, apF_list, iExU_ev, exF_list, exV_new, exV_tup, iPop_ev, po_snoc, iStL_ev, iFrz_ev, fz_own, fz_val, iRev_ev, gRev_list, gRev_tup, iSeqI_ev, iRevI_ev, iEnumU_ev, iR1_ev, turn_ev, at0, at1, at2, ix0, ix1, ix2, gAdd_int, gAdd_str, gAdd_tup, gSub_int, gMul_int, gMulR_int, gMulL_int, gDiv_int, gMod_int, gPow_int, gNeg_int, gLt_int, gLe_int, gGt_int, gGe_int, gEq_int, gNe_int, gEq_str, gNe_str, gEq_bool, gNe_bool, gIs_ap, gIsN_ap, isNone_none, isNone_int, isNone_tup, isNone_str, gIx_list, gIx_tup, gSl_tup, gSl_list, c1_ap, gLen_list, gLen_tup, gInt_int, gList_list, gList_tup, gTuple_list, gTuple_tup, truD_none, truD_bool, truD_int, truD_list, truD_tup, isi_int_int, isi_int_tup, isi_bool_bool, isi_tup_tup, isi_list_list, isi_bool_int, Option.bind_some, Option.map_some, List.getElem?_cons_zero, List.getElem?_cons_succ, List.set_cons_zero, List.set_cons_succ, List.length_cons, List.length_nil, if_true, reduceIte, decide_true, decide_false, Bool.true_and, Bool.and_true, Bool.not_true, Bool.not_false, Bool.false_eq_true, Bool.not_eq_true, decide_eq_true_eq, Nat.reduceAdd, Nat.reduceLeDiff, Nat.reduceEqDiff, Nat.reduceSub, Nat.reduceMul, Int.reduceLT, Int.reduceLE, Int.reduceEq, Int.reduceAdd, Int.reduceSub, Int.reduceMul, Int.reduceNeg, Int.reduceToNat, Int.reducePow, and_self, eq_self, and_true, true_and, Nat.reduceBEq, ncast, DL.sm, List.length_map]
    have hz : acc.length < 100000 := by omega
    have h2 : b1_sought [.val f0, .own false (vl acc), .val (wrap "some" (v :: vs) (.tuple (.str w :: xs)))] = some (.next [.val f0, .own false (vl (acc ++ [v])), .val (wrap "some" vs (.tuple (.str w :: xs)))]) := by
      simp only [b1_sought, wrap, vl, List.foldr_cons, iSeq_ev, sq_next, sq_ret, sq_brk, sq_cont, iNext_ev, iAsg_ev, as_val, as_new_t, as_new_f, setV_ev, set_no, set_val, set_own, iVar_ev, va_val, va_own, look_ev, lo_own, look_val, look_new, vis_val, vis_new, pub_val, pub_new, pub_own, opd_ap, iCon_ap, iBin_ap, iUn_ap, argN_ap, argC_ap, looks_nil, looks_cons, viss_nil, viss_cons, iCB_ap, iTup_ap, iLst_ap, isB_ap, isI_ap, iTst_ap, iTru_ap, iNotT_ap, iAndT_ap, iOrT_ap, iAnd_ap, iOr_ap, iNot_ap, iIf_ap, iSl_ap, iNoP_ap, iPart_ap, iIsi_ap, iIfS_ev, iRet_ev, ret_val', ret_new', ret_own', ro_own, iRetN_ev, iDrop_ev, iBrk_ev, iCont_ev, iBef_ev, iAft_ev, wfl_next, wfl_cont, wfl_brk, wfl_ret, wipe_nil, wipe_cons, wp_no, wp_val, wp_own, iNm_ev, iGT_tup, iGT_list, iGN_ev, iGC_ev, iAsgT_ev, iCall_ev, sls_nil, sls_val, sls_own, dup_nil, dup_val, dup_own, has_nil, has_val, has_own, now_val, now_new, back_ev, bg_nil, bg_cons, bs_no, bs_val, bs_own, bsf_some, bsf_none, b1_nil, b1_val, b1_own, iApp_ev, ap1_list, apF_list, iExU_ev, exF_list, exV_new, exV_tup, iPop_ev, po_snoc, iStL_ev, iFrz_ev, fz_own, fz_val, iRev_ev, gRev_list, gRev_tup, iSeqI_ev, iRevI_ev, iEnumU_ev, iR1_ev, turn_ev, at0, at1, at2, ix0, ix1, ix2, gAdd_int, gAdd_str, gAdd_tup, gSub_int, gMul_int, gMulR_int, gMulL_int, gDiv_int, gMod_int, gPow_int, gNeg_int, gLt_int, gLe_int, gGt_int, gGe_int, gEq_int, gNe_int, gEq_str, gNe_str, gEq_bool, gNe_bool, gIs_ap, gIsN_ap, isNone_none, isNone_int, isNone_tup, isNone_str, gIx_list, gIx_tup, gSl_tup, gSl_list, c1_ap, gLen_list, gLen_tup, gInt_int, gList_list, gList_tup, gTuple_list, gTuple_tup, truD_none, truD_bool, truD_int, truD_list, truD_tup, isi_int_int, isi_int_tup, isi_bool_bool, isi_tup_tup, isi_list_list, isi_bool_int, Option.bind_some, Option.map_some, List.getElem?_cons_zero, List.getElem?_cons_succ, List.set_cons_zero, List.set_cons_succ, List.length_cons, List.length_nil, if_true, reduceIte, decide_true, decide_false, Bool.true_and, Bool.and_true, Bool.not_true, Bool.not_false, Bool.false_eq_true, Bool.not_eq_true, decide_eq_true_eq, Nat.reduceAdd, Nat.reduceLeDiff, Nat.reduceEqDiff, Nat.reduceSub, Nat.reduceMul, Int.reduceLT, Int.reduceLE, Int.reduceEq, Int.reduceAdd, Int.reduceSub, Int.reduceMul, Int.reduceNeg, Int.reduceToNat, Int.reducePow, and_self, eq_self, and_true, true_and, Nat.reduceBEq, ncast, DL.sm, List.length_map, hz, List.map_append, List.map_cons, List.map_nil]
    rw [wl_true h1 h2, sought_loop hw hc vs (acc ++ [v]) n (by omega) (by rw [List.length_append, List.length_singleton]; omega), List.append_assoc]
    rfl
theorem sought_eq {w : Str} {xs : List D} (hw : ¬ w = "some") (vs : List Int) (hv : vs.length < 100) : F_sought [.val (wrap "some" vs (.tuple (.str w :: xs)))] = some (.val (.tuple [vl vs, .tuple (.str w :: xs)]), [.val (wrap "some" vs (.tuple (.str w :: xs)))]) := by
  have hf := sought_loop (f0 := wrap "some" vs (.tuple (.str w :: xs))) (xs := xs) hw rfl vs [] 1000000 (by omega) (by simp only [List.length_nil]; omega)
  rw [List.nil_append] at hf
  have hf' : wloop (iTst (iBin gEq (iBin gIx (iVar 2) (iCon (.int 0))) (iCon (.str "some")))) b1_sought 1000000 [.val (wrap "some" vs (.tuple (.str w :: xs))), .own false (.list []), .val (wrap "some" vs (.tuple (.str w :: xs)))] = _ := hf
  have e := @rfl _ (m_sought [.val (wrap "some" vs (.tuple (.str w :: xs))), .no, .no])
  conv at e => rhs; simp only [m_sought, iSeq_ev, sq_next, sq_ret, sq_brk, sq_cont, iNext_ev, iAsg_ev, as_val, as_new_t, as_new_f, setV_ev, set_no, set_val, set_own, iVar_ev, va_val, va_own, look_ev, lo_own, look_val, look_new, vis_val, vis_new, pub_val, pub_new, pub_own, opd_ap, iCon_ap, iBin_ap, iUn_ap, argN_ap, argC_ap, looks_nil, looks_cons, viss_nil, viss_cons, iCB_ap, iTup_ap, iLst_ap, isB_ap, isI_ap, iTst_ap, iTru_ap, iNotT_ap, iAndT_ap, iOrT_ap, iAnd_ap, iOr_ap, iNot_ap, iIf_ap, iSl_ap, iNoP_ap, iPart_ap, iIsi_ap, iIfS_ev, iRet_ev, ret_val', ret_new', ret_own', ro_own, iRetN_ev, iDrop_ev, iBrk_ev, iCont_ev, iBef_ev, iAft_ev, wfl_next, wfl_cont, wfl_brk, wfl_ret, wipe_nil, wipe_cons, wp_no, wp_val, wp_own, iNm_ev, iGT_tup, iGT_list, iGN_ev, iGC_ev, iAsgT_ev, iCall_ev, sls_nil, sls_val, sls_own, dup_nil, dup_val, dup_own, has_nil, has_val, has_own, now_val, now_new, back_ev, bg_nil, bg_cons, bs_no, bs_val, bs_own, bsf_some, bsf_none, b1_nil, b1_val, b1_own, iApp_ev, ap1_list, apF_list, iExU_ev, exF_list, exV_new, exV_tup, iPop_ev, po_snoc, iStL_ev, iFrz_ev, fz_own, fz_val, iRev_ev, gRev_list, gRev_tup, iSeqI_ev, iRevI_ev, iEnumU_ev, iR1_ev, turn_ev, at0, at1, at2, ix0, ix1, ix2, gAdd_int, gAdd_str, gAdd_tup, gSub_int, gMul_int, gMulR_int, gMulL_int, gDiv_int, gMod_int, gPow_int, gNeg_int, gLt_int, gLe_int, gGt_int, gGe_int, gEq_int, gNe_int, gEq_str, gNe_str, gEq_bool, gNe_bool, gIs_ap, gIsN_ap, isNone_none, isNone_int, isNone_tup, isNone_str, gIx_list, gIx_tup, gSl_tup, gSl_list, c1_ap, gLen_list, gLen_tup, gInt_int, gList_list, gList_tup, gTuple_list, gTuple_tup, truD_none, truD_bool, truD_int, truD_list, truD_tup, isi_int_int, isi_int_tup, isi_bool_bool, isi_tup_tup, isi_list_list, isi_bool_int, Option.bind_some, Option.map_some, List.getElem?_cons_zero, List.getElem?_cons_succ, List.set_cons_zero, List.set_cons_succ, List.length_cons, List.length_nil, if_true, reduceIte, decide_true, decide_false, Bool.true_and, Bool.and_true, Bool.not_true, Bool.not_false, Bool.false_eq_true, Bool.not_eq_true, decide_eq_true_eq, Nat.reduceAdd, Nat.reduceLeDiff, Nat.reduceEqDiff, Nat.reduceSub, Nat.reduceMul, Int.reduceLT, Int.reduceLE, Int.reduceEq, Int.reduceAdd, Int.reduceSub, Int.reduceMul, Int.reduceNeg, Int.reduceToNat, Int.reducePow, and_self, eq_self, and_true, true_and, Nat.reduceBEq, ncast, DL.sm, List.length_map, hf']
  exact run_ret (n := 1) (N := 3) (sls := [.val (wrap "some" vs (.tuple (.str w :: xs)))]) e rfl
abbrev atomD (number : Int) (vs : List Int) : D := .tuple [.str "atom", .tuple [.tuple [.int 5, .int number, .int 0], .tuple (vs.map .int)]]
abbrev dueD (number : Int) (vs : List Int) (r : D) : D := .tuple [.str "and", wrap "all" vs (.tuple [.str "implies", r, atomD number vs]), wrap "all" vs (.tuple [.str "not", atomD number vs])]
theorem answer_eq (n : Int) : F_answer [.val (.int n)] = some (.val (.tuple [.int 5, .int n, .int 0]), [.val (.int n)]) := by
  have e := @rfl _ (m_answer [.val (.int n)])
  conv at e => rhs; simp only [m_answer, iSeq_ev, sq_next, sq_ret, sq_brk, sq_cont, iNext_ev, iAsg_ev, as_val, as_new_t, as_new_f, setV_ev, set_no, set_val, set_own, iVar_ev, va_val, va_own, look_ev, lo_own, look_val, look_new, vis_val, vis_new, pub_val, pub_new, pub_own, opd_ap, iCon_ap, iBin_ap, iUn_ap, argN_ap, argC_ap, looks_nil, looks_cons, viss_nil, viss_cons, iCB_ap, iTup_ap, iLst_ap, isB_ap, isI_ap, iTst_ap, iTru_ap, iNotT_ap, iAndT_ap, iOrT_ap, iAnd_ap, iOr_ap, iNot_ap, iIf_ap, iSl_ap, iNoP_ap, iPart_ap, iIsi_ap, iIfS_ev, iRet_ev, ret_val', ret_new', ret_own', ro_own, iRetN_ev, iDrop_ev, iBrk_ev, iCont_ev, iBef_ev, iAft_ev, wfl_next, wfl_cont, wfl_brk, wfl_ret, wipe_nil, wipe_cons, wp_no, wp_val, wp_own, iNm_ev, iGT_tup, iGT_list, iGN_ev, iGC_ev, iAsgT_ev, iCall_ev, sls_nil, sls_val, sls_own, dup_nil, dup_val, dup_own, has_nil, has_val, has_own, now_val, now_new, back_ev, bg_nil, bg_cons, bs_no, bs_val, bs_own, bsf_some, bsf_none, b1_nil, b1_val, b1_own, iApp_ev, ap1_list, apF_list, iExU_ev, exF_list, exV_new, exV_tup, iPop_ev, po_snoc, iStL_ev, iFrz_ev, fz_own, fz_val, iRev_ev, gRev_list, gRev_tup, iSeqI_ev, iRevI_ev, iEnumU_ev, iR1_ev, turn_ev, at0, at1, at2, ix0, ix1, ix2, gAdd_int, gAdd_str, gAdd_tup, gSub_int, gMul_int, gMulR_int, gMulL_int, gDiv_int, gMod_int, gPow_int, gNeg_int, gLt_int, gLe_int, gGt_int, gGe_int, gEq_int, gNe_int, gEq_str, gNe_str, gEq_bool, gNe_bool, gIs_ap, gIsN_ap, isNone_none, isNone_int, isNone_tup, isNone_str, gIx_list, gIx_tup, gSl_tup, gSl_list, c1_ap, gLen_list, gLen_tup, gInt_int, gList_list, gList_tup, gTuple_list, gTuple_tup, truD_none, truD_bool, truD_int, truD_list, truD_tup, isi_int_int, isi_int_tup, isi_bool_bool, isi_tup_tup, isi_list_list, isi_bool_int, Option.bind_some, Option.map_some, List.getElem?_cons_zero, List.getElem?_cons_succ, List.set_cons_zero, List.set_cons_succ, List.length_cons, List.length_nil, if_true, reduceIte, decide_true, decide_false, Bool.true_and, Bool.and_true, Bool.not_true, Bool.not_false, Bool.false_eq_true, Bool.not_eq_true, decide_eq_true_eq, Nat.reduceAdd, Nat.reduceLeDiff, Nat.reduceEqDiff, Nat.reduceSub, Nat.reduceMul, Int.reduceLT, Int.reduceLE, Int.reduceEq, Int.reduceAdd, Int.reduceSub, Int.reduceMul, Int.reduceNeg, Int.reduceToNat, Int.reducePow, and_self, eq_self, and_true, true_and, Nat.reduceBEq, ncast, DL.sm, List.length_map]
  exact run_ret (n := 1) (N := 1) (sls := [.val (.int n)]) e rfl
theorem qa_eq {w : Str} {xs : List D} (hw : ¬ w = "some") (vs : List Int) (hv : vs.length < 100) (n : Int) : F_question_axiom [.val (.int n), .val (wrap "some" vs (.tuple (.str w :: xs)))] = some (.val (dueD n vs (.tuple (.str w :: xs))), [.val (.int n), .val (wrap "some" vs (.tuple (.str w :: xs)))]) := by
  have e := @rfl _ (m_question_axiom F_quantified F_answer F_sought [.val (.int n), .val (wrap "some" vs (.tuple (.str w :: xs))), .no, .no, .no, .no])
  conv at e => rhs; simp only [m_question_axiom, iSeq_ev, sq_next, sq_ret, sq_brk, sq_cont, iNext_ev, iAsg_ev, as_val, as_new_t, as_new_f, setV_ev, set_no, set_val, set_own, iVar_ev, va_val, va_own, look_ev, lo_own, look_val, look_new, vis_val, vis_new, pub_val, pub_new, pub_own, opd_ap, iCon_ap, iBin_ap, iUn_ap, argN_ap, argC_ap, looks_nil, looks_cons, viss_nil, viss_cons, iCB_ap, iTup_ap, iLst_ap, isB_ap, isI_ap, iTst_ap, iTru_ap, iNotT_ap, iAndT_ap, iOrT_ap, iAnd_ap, iOr_ap, iNot_ap, iIf_ap, iSl_ap, iNoP_ap, iPart_ap, iIsi_ap, iIfS_ev, iRet_ev, ret_val', ret_new', ret_own', ro_own, iRetN_ev, iDrop_ev, iBrk_ev, iCont_ev, iBef_ev, iAft_ev, wfl_next, wfl_cont, wfl_brk, wfl_ret, wipe_nil, wipe_cons, wp_no, wp_val, wp_own, iNm_ev, iGT_tup, iGT_list, iGN_ev, iGC_ev, iAsgT_ev, iCall_ev, sls_nil, sls_val, sls_own, dup_nil, dup_val, dup_own, has_nil, has_val, has_own, now_val, now_new, back_ev, bg_nil, bg_cons, bs_no, bs_val, bs_own, bsf_some, bsf_none, b1_nil, b1_val, b1_own, iApp_ev, ap1_list, apF_list, iExU_ev, exF_list, exV_new, exV_tup, iPop_ev, po_snoc, iStL_ev, iFrz_ev, fz_own, fz_val, iRev_ev, gRev_list, gRev_tup, iSeqI_ev, iRevI_ev, iEnumU_ev, iR1_ev, turn_ev, at0, at1, at2, ix0, ix1, ix2, gAdd_int, gAdd_str, gAdd_tup, gSub_int, gMul_int, gMulR_int, gMulL_int, gDiv_int, gMod_int, gPow_int, gNeg_int, gLt_int, gLe_int, gGt_int, gGe_int, gEq_int, gNe_int, gEq_str, gNe_str, gEq_bool, gNe_bool, gIs_ap, gIsN_ap, isNone_none, isNone_int, isNone_tup, isNone_str, gIx_list, gIx_tup, gSl_tup, gSl_list, c1_ap, gLen_list, gLen_tup, gInt_int, gList_list, gList_tup, gTuple_list, gTuple_tup, truD_none, truD_bool, truD_int, truD_list, truD_tup, isi_int_int, isi_int_tup, isi_bool_bool, isi_tup_tup, isi_list_list, isi_bool_int, Option.bind_some, Option.map_some, List.getElem?_cons_zero, List.getElem?_cons_succ, List.set_cons_zero, List.set_cons_succ, List.length_cons, List.length_nil, if_true, reduceIte, decide_true, decide_false, Bool.true_and, Bool.and_true, Bool.not_true, Bool.not_false, Bool.false_eq_true, Bool.not_eq_true, decide_eq_true_eq, Nat.reduceAdd, Nat.reduceLeDiff, Nat.reduceEqDiff, Nat.reduceSub, Nat.reduceMul, Int.reduceLT, Int.reduceLE, Int.reduceEq, Int.reduceAdd, Int.reduceSub, Int.reduceMul, Int.reduceNeg, Int.reduceToNat, Int.reducePow, and_self, eq_self, and_true, true_and, Nat.reduceBEq, ncast, DL.sm, List.length_map, sought_eq hw vs hv, answer_eq, quant_eq]
  exact run_ret (n := 2) (N := 6) (sls := [.val (.int n), .val (wrap "some" vs (.tuple (.str w :: xs)))]) e rfl
/-! the law -/
abbrev LE (ns : List Int) (a b : Int) (rs : List Int) (s2 s3 s5 : Sl) : Nv := [.val (scr ns), .own false (St a b rs), s2, s3, .no, s5, .no, .no, .no, .no, .no]
theorem smr {k : Int} (h0 : 0 ≤ k) (h1 : k < 1000) : smR k = true := by
  unfold smR
  simp only [Bool.and_eq_true, decide_eq_true_eq]
  omega
theorem draw_loop {ns rs : List Int} (hr : rs.length = 64) {gf : EvF} (hg : gf = iCall F__law_digit (argC (iVar 1) (argC (iCon (.int 5)) argN))) : ∀ (ds : List D) (a b : Int) (acc : List Int), acc.length + ds.length < 100 →
    ∃ a' b' vs, lcLoop (iNm 4) iYes gf [4] ds (LE ns a b rs .no .no .no) (acc.map .int) = some (List.map D.int vs, LE ns a' b' rs .no .no .no) ∧ vs.length = acc.length + ds.length
  | [], a, b, acc, _ => ⟨a, b, acc, rfl, rfl⟩
  | d :: ds, a, b, acc, hl => by
    rw [List.length_cons] at hl
    obtain ⟨k, a1, b1, h1, _, _⟩ := digit_eq (a := a) (b := b) (m := 5) (by omega) (by omega) hr
    obtain ⟨a2, b2, vs, h2, h3⟩ := draw_loop hr hg ds a1 b1 (acc ++ [k]) (by rw [List.length_append, List.length_singleton]; omega)
    refine ⟨a2, b2, vs, ?_, by rw [h3, List.length_append, List.length_singleton, List.length_cons]; omega⟩
    rw [← h2]
    subst hg
    have hz : acc.length < 100000 := by omega
    simp only [lcLoop, iYes, iSeq_ev, sq_next, sq_ret, sq_brk, sq_cont, iNext_ev, iAsg_ev, as_val, as_new_t, as_new_f, setV_ev, set_no, set_val, set_own, iVar_ev, va_val, va_own, look_ev, lo_own, look_val, look_new, vis_val, vis_new, pub_val, pub_new, pub_own, opd_ap, iCon_ap, iBin_ap, iUn_ap, argN_ap, argC_ap, looks_nil, looks_cons, viss_nil, viss_cons, iCB_ap, iTup_ap, iLst_ap, isB_ap, isI_ap, iTst_ap, iTru_ap, iNotT_ap, iAndT_ap, iOrT_ap, iAnd_ap, iOr_ap, iNot_ap, iIf_ap, iSl_ap, iNoP_ap, iPart_ap, iIsi_ap, iIfS_ev, iRet_ev, ret_val', ret_new', ret_own', ro_own, iRetN_ev, iDrop_ev, iBrk_ev, iCont_ev, iBef_ev, iAft_ev, wfl_next, wfl_cont, wfl_brk, wfl_ret, wipe_nil, wipe_cons, wp_no, wp_val, wp_own, iNm_ev, iGT_tup, iGT_list, iGN_ev, iGC_ev, iAsgT_ev, iCall_ev, sls_nil, sls_val, sls_own, dup_nil, dup_val, dup_own, has_nil, has_val, has_own, now_val, now_new, back_ev, bg_nil, bg_cons, bs_no, bs_val, bs_own, bsf_some, bsf_none, b1_nil, b1_val, b1_own, iApp_ev, ap1_list, apF_list, iExU_ev, exF_list, exV_new, exV_tup, iPop_ev, po_snoc, iStL_ev, iFrz_ev, fz_own, fz_val, iRev_ev, gRev_list, gRev_tup, iSeqI_ev, iRevI_ev, iEnumU_ev, iR1_ev, turn_ev, at0, at1, at2, ix0, ix1, ix2, gAdd_int, gAdd_str, gAdd_tup, gSub_int, gMul_int, gMulR_int, gMulL_int, gDiv_int, gMod_int, gPow_int, gNeg_int, gLt_int, gLe_int, gGt_int, gGe_int, gEq_int, gNe_int, gEq_str, gNe_str, gEq_bool, gNe_bool, gIs_ap, gIsN_ap, isNone_none, isNone_int, isNone_tup, isNone_str, gIx_list, gIx_tup, gSl_tup, gSl_list, c1_ap, gLen_list, gLen_tup, gInt_int, gList_list, gList_tup, gTuple_list, gTuple_tup, truD_none, truD_bool, truD_int, truD_list, truD_tup, isi_int_int, isi_int_tup, isi_bool_bool, isi_tup_tup, isi_list_list, isi_bool_int, Option.bind_some, Option.map_some, List.getElem?_cons_zero, List.getElem?_cons_succ, List.set_cons_zero, List.set_cons_succ, List.length_cons, List.length_nil, if_true, reduceIte, decide_true, decide_false, Bool.true_and, Bool.and_true, Bool.not_true, Bool.not_false, Bool.false_eq_true, Bool.not_eq_true, decide_eq_true_eq, Nat.reduceAdd, Nat.reduceLeDiff, Nat.reduceEqDiff, Nat.reduceSub, Nat.reduceMul, Int.reduceLT, Int.reduceLE, Int.reduceEq, Int.reduceAdd, Int.reduceSub, Int.reduceMul, Int.reduceNeg, Int.reduceToNat, Int.reducePow, and_self, eq_self, and_true, true_and, Nat.reduceBEq, ncast, DL.sm, List.length_map, h1, hz, List.map_append, List.map_cons, List.map_nil]
theorem rest_loop {ns rs : List Int} {a b : Int} {s2 : Sl} {r : D} (h : Hd r) (hp : Py 13 r) : ∃ w xs, floop (iNm 4) (b2_law F_question_axiom F__law_bound F_sought F__law_tree F__law_digit F__law_state) (rngD 0 5) (LE ns a b rs s2 (.val r) .no) = some (.next (LE ns a b rs s2 (.val (.tuple (.str w :: xs))) .no)) ∧ w ≠ "some" ∧ Py 20 (.tuple (.str w :: xs)) := by
  obtain ⟨e2, h1, r2, ⟨⟨w, xs, rfl⟩, _⟩, h3, h4, h5⟩ := floop_inv (tg := iNm 4) (s := b2_law F_question_axiom F__law_bound F_sought F__law_tree F__law_digit F__law_state) (dn := fun k : Nat => D.int (0 + (k : Int))) (fun ks e => ∃ r, (Hd r ∧ ks.length ≤ 5) ∧ Py (20 - ks.length) r ∧ (ks.length < 5 → ∀ w xs, r = .tuple (.str w :: xs) → w ≠ "some") ∧ e = LE ns a b rs s2 (.val r) .no) (fun x ks e ⟨r, ⟨⟨w, xs, hr⟩, h5⟩, hp, hn, he⟩ => by
      rw [List.length_cons] at h5
      subst he
      subst hr
      by_cases hw : w = "some"
      · refine ⟨LE ns a b rs s2 (.val (.tuple [.str "not", .tuple (.str w :: xs)])) .no, .inl ?_, _, ⟨⟨_, _, rfl⟩, by omega⟩, ?_, ?_, rfl⟩
        · simp only [b2_law, iSeq_ev, sq_next, sq_ret, sq_brk, sq_cont, iNext_ev, iAsg_ev, as_val, as_new_t, as_new_f, setV_ev, set_no, set_val, set_own, iVar_ev, va_val, va_own, look_ev, lo_own, look_val, look_new, vis_val, vis_new, pub_val, pub_new, pub_own, opd_ap, iCon_ap, iBin_ap, iUn_ap, argN_ap, argC_ap, looks_nil, looks_cons, viss_nil, viss_cons, iCB_ap, iTup_ap, iLst_ap, isB_ap, isI_ap, iTst_ap, iTru_ap, iNotT_ap, iAndT_ap, iOrT_ap, iAnd_ap, iOr_ap, iNot_ap, iIf_ap, iSl_ap, iNoP_ap, iPart_ap, iIsi_ap, iIfS_ev, iRet_ev, ret_val', ret_new', ret_own', ro_own, iRetN_ev, iDrop_ev, iBrk_ev, iCont_ev, iBef_ev, iAft_ev, wfl_next, wfl_cont, wfl_brk, wfl_ret, wipe_nil, wipe_cons, wp_no, wp_val, wp_own, iNm_ev, iGT_tup, iGT_list, iGN_ev, iGC_ev, iAsgT_ev, iCall_ev, sls_nil, sls_val, sls_own, dup_nil, dup_val, dup_own, has_nil, has_val, has_own, now_val, now_new, back_ev, bg_nil, bg_cons, bs_no, bs_val, bs_own, bsf_some, bsf_none, b1_nil, b1_val, b1_own, iApp_ev, ap1_list, apF_list, iExU_ev, exF_list, exV_new, exV_tup, iPop_ev, po_snoc, iStL_ev, iFrz_ev, fz_own, fz_val, iRev_ev, gRev_list, gRev_tup, iSeqI_ev, iRevI_ev, iEnumU_ev, iR1_ev, turn_ev, at0, at1, at2, ix0, ix1, ix2, gAdd_int, gAdd_str, gAdd_tup, gSub_int, gMul_int, gMulR_int, gMulL_int, gDiv_int, gMod_int, gPow_int, gNeg_int, gLt_int, gLe_int, gGt_int, gGe_int, gEq_int, gNe_int, gEq_str, gNe_str, gEq_bool, gNe_bool, gIs_ap, gIsN_ap, isNone_none, isNone_int, isNone_tup, isNone_str, gIx_list, gIx_tup, gSl_tup, gSl_list, c1_ap, gLen_list, gLen_tup, gInt_int, gList_list, gList_tup, gTuple_list, gTuple_tup, truD_none, truD_bool, truD_int, truD_list, truD_tup, isi_int_int, isi_int_tup, isi_bool_bool, isi_tup_tup, isi_list_list, isi_bool_int, Option.bind_some, Option.map_some, List.getElem?_cons_zero, List.getElem?_cons_succ, List.set_cons_zero, List.set_cons_succ, List.length_cons, List.length_nil, if_true, reduceIte, decide_true, decide_false, Bool.true_and, Bool.and_true, Bool.not_true, Bool.not_false, Bool.false_eq_true, Bool.not_eq_true, decide_eq_true_eq, Nat.reduceAdd, Nat.reduceLeDiff, Nat.reduceEqDiff, Nat.reduceSub, Nat.reduceMul, Int.reduceLT, Int.reduceLE, Int.reduceEq, Int.reduceAdd, Int.reduceSub, Int.reduceMul, Int.reduceNeg, Int.reduceToNat, Int.reducePow, and_self, eq_self, and_true, true_and, Nat.reduceBEq, ncast, DL.sm, List.length_map, hw]
        · exact (Py.tuple (.cons (.str (by decide +kernel)) (.cons hp .nil))).mono (by rw [List.length_cons]; omega)
        · intro _ w' xs' e'
          injection e' with e'
          injection e' with e' _
          injection e' with e'
          rw [← e']
          decide +kernel
      · refine ⟨LE ns a b rs s2 (.val (.tuple (.str w :: xs))) .no, .inl ?_, _, ⟨⟨_, _, rfl⟩, by omega⟩, hp.mono (by rw [List.length_cons]; omega), ?_, rfl⟩
        · simp only [b2_law, iSeq_ev, sq_next, sq_ret, sq_brk, sq_cont, iNext_ev, iAsg_ev, as_val, as_new_t, as_new_f, setV_ev, set_no, set_val, set_own, iVar_ev, va_val, va_own, look_ev, lo_own, look_val, look_new, vis_val, vis_new, pub_val, pub_new, pub_own, opd_ap, iCon_ap, iBin_ap, iUn_ap, argN_ap, argC_ap, looks_nil, looks_cons, viss_nil, viss_cons, iCB_ap, iTup_ap, iLst_ap, isB_ap, isI_ap, iTst_ap, iTru_ap, iNotT_ap, iAndT_ap, iOrT_ap, iAnd_ap, iOr_ap, iNot_ap, iIf_ap, iSl_ap, iNoP_ap, iPart_ap, iIsi_ap, iIfS_ev, iRet_ev, ret_val', ret_new', ret_own', ro_own, iRetN_ev, iDrop_ev, iBrk_ev, iCont_ev, iBef_ev, iAft_ev, wfl_next, wfl_cont, wfl_brk, wfl_ret, wipe_nil, wipe_cons, wp_no, wp_val, wp_own, iNm_ev, iGT_tup, iGT_list, iGN_ev, iGC_ev, iAsgT_ev, iCall_ev, sls_nil, sls_val, sls_own, dup_nil, dup_val, dup_own, has_nil, has_val, has_own, now_val, now_new, back_ev, bg_nil, bg_cons, bs_no, bs_val, bs_own, bsf_some, bsf_none, b1_nil, b1_val, b1_own, iApp_ev, ap1_list, apF_list, iExU_ev, exF_list, exV_new, exV_tup, iPop_ev, po_snoc, iStL_ev, iFrz_ev, fz_own, fz_val, iRev_ev, gRev_list, gRev_tup, iSeqI_ev, iRevI_ev, iEnumU_ev, iR1_ev, turn_ev, at0, at1, at2, ix0, ix1, ix2, gAdd_int, gAdd_str, gAdd_tup, gSub_int, gMul_int, gMulR_int, gMulL_int, gDiv_int, gMod_int, gPow_int, gNeg_int, gLt_int, gLe_int, gGt_int, gGe_int, gEq_int, gNe_int, gEq_str, gNe_str, gEq_bool, gNe_bool, gIs_ap, gIsN_ap, isNone_none, isNone_int, isNone_tup, isNone_str, gIx_list, gIx_tup, gSl_tup, gSl_list, c1_ap, gLen_list, gLen_tup, gInt_int, gList_list, gList_tup, gTuple_list, gTuple_tup, truD_none, truD_bool, truD_int, truD_list, truD_tup, isi_int_int, isi_int_tup, isi_bool_bool, isi_tup_tup, isi_list_list, isi_bool_int, Option.bind_some, Option.map_some, List.getElem?_cons_zero, List.getElem?_cons_succ, List.set_cons_zero, List.set_cons_succ, List.length_cons, List.length_nil, if_true, reduceIte, decide_true, decide_false, Bool.true_and, Bool.and_true, Bool.not_true, Bool.not_false, Bool.false_eq_true, Bool.not_eq_true, decide_eq_true_eq, Nat.reduceAdd, Nat.reduceLeDiff, Nat.reduceEqDiff, Nat.reduceSub, Nat.reduceMul, Int.reduceLT, Int.reduceLE, Int.reduceEq, Int.reduceAdd, Int.reduceSub, Int.reduceMul, Int.reduceNeg, Int.reduceToNat, Int.reducePow, and_self, eq_self, and_true, true_and, Nat.reduceBEq, ncast, DL.sm, List.length_map, hw]
        · intro _ w' xs' e'
          injection e' with e'
          injection e' with e' _
          injection e' with e'
          rw [← e']
          exact hw) (List.range 5) _ ⟨r, ⟨h, by simp⟩, hp.mono (by simp), by simp, rfl⟩
  subst h5
  exact ⟨w, xs, h1, h4 (by simp) _ _ rfl, h3.mono (by simp)⟩
theorem law_holds : ∀ ns : List Int, ns.length ≤ 63 → ∃ o, F_law [.val (.list (ns.map D.int))] = some (.val (.bool true), o) := by
  intro ns _
  obtain ⟨rs, a, hr, h1⟩ := state_eq ns
  obtain ⟨m, a1, b1, h2, m0, m1⟩ := digit_eq (a := a) (b := 0) (m := 5) (by omega) (by omega) hr
  obtain ⟨a2, b2, vs, h3, hv⟩ := draw_loop (ns := ns) hr rfl (rngD 0 m.toNat) a1 b1 [] (by rw [rngD_len]; simp only [List.length_nil]; omega)
  rw [rngD_len, List.length_nil] at hv
  obtain ⟨r, a3, b3, h4, hh, hp⟩ := tree_eq 12 2 5 a2 b2 rs (by omega) (by omega) (by omega) hr
  have h4' : F__law_tree [.own true (St a2 b2 rs), .val (.int 2), .val (.int 5)] = some (.val r, [.own true (St a3 b3 rs), .val (.int 2), .val (.int 5)]) := h4
  obtain ⟨w, xs, h5, hw, hp2⟩ := rest_loop (ns := ns) (rs := rs) (a := a3) (b := b3) (s2 := .val (vl vs)) hh hp
  obtain ⟨r0, hr0⟩ : ∃ r0, L2.atI (rs.map D.int) 0 = some (.int r0) := rows_at hr 0
  have hf := (floop_fold (tg := iNm 6) (s := b1_law F_question_axiom F__law_bound F_sought F__law_tree F__law_digit F__law_state) (dn := D.int) (fun f : D => [.val (scr ns), .own false (St a3 b3 rs), .val (vl vs), .val (.tuple (.str w :: xs)), .no, .val f, .no, .no, .no, .no, .no]) (fun acc (v : Int) => D.tuple [.str "some", .int v, acc]) (fun _ _ => True) (fun x xs st _ => by
    refine ⟨?_, trivial⟩
    simp only [b1_law, iSeq_ev, sq_next, sq_ret, sq_brk, sq_cont, iNext_ev, iAsg_ev, as_val, as_new_t, as_new_f, setV_ev, set_no, set_val, set_own, iVar_ev, va_val, va_own, look_ev, lo_own, look_val, look_new, vis_val, vis_new, pub_val, pub_new, pub_own, opd_ap, iCon_ap, iBin_ap, iUn_ap, argN_ap, argC_ap, looks_nil, looks_cons, viss_nil, viss_cons, iCB_ap, iTup_ap, iLst_ap, isB_ap, isI_ap, iTst_ap, iTru_ap, iNotT_ap, iAndT_ap, iOrT_ap, iAnd_ap, iOr_ap, iNot_ap, iIf_ap, iSl_ap, iNoP_ap, iPart_ap, iIsi_ap, iIfS_ev, iRet_ev, ret_val', ret_new', ret_own', ro_own, iRetN_ev, iDrop_ev, iBrk_ev, iCont_ev, iBef_ev, iAft_ev, wfl_next, wfl_cont, wfl_brk, wfl_ret, wipe_nil, wipe_cons, wp_no, wp_val, wp_own, iNm_ev, iGT_tup, iGT_list, iGN_ev, iGC_ev, iAsgT_ev, iCall_ev, sls_nil, sls_val, sls_own, dup_nil, dup_val, dup_own, has_nil, has_val, has_own, now_val, now_new, back_ev, bg_nil, bg_cons, bs_no, bs_val, bs_own, bsf_some, bsf_none, b1_nil, b1_val, b1_own, iApp_ev, ap1_list, apF_list, iExU_ev, exF_list, exV_new, exV_tup, iPop_ev, po_snoc, iStL_ev, iFrz_ev, fz_own, fz_val, iRev_ev, gRev_list, gRev_tup, iSeqI_ev, iRevI_ev, iEnumU_ev, iR1_ev, turn_ev, at0, at1, at2, ix0, ix1, ix2, gAdd_int, gAdd_str, gAdd_tup, gSub_int, gMul_int, gMulR_int, gMulL_int, gDiv_int, gMod_int, gPow_int, gNeg_int, gLt_int, gLe_int, gGt_int, gGe_int, gEq_int, gNe_int, gEq_str, gNe_str, gEq_bool, gNe_bool, gIs_ap, gIsN_ap, isNone_none, isNone_int, isNone_tup, isNone_str, gIx_list, gIx_tup, gSl_tup, gSl_list, c1_ap, gLen_list, gLen_tup, gInt_int, gList_list, gList_tup, gTuple_list, gTuple_tup, truD_none, truD_bool, truD_int, truD_list, truD_tup, isi_int_int, isi_int_tup, isi_bool_bool, isi_tup_tup, isi_list_list, isi_bool_int, Option.bind_some, Option.map_some, List.getElem?_cons_zero, List.getElem?_cons_succ, List.set_cons_zero, List.set_cons_succ, List.length_cons, List.length_nil, if_true, reduceIte, decide_true, decide_false, Bool.true_and, Bool.and_true, Bool.not_true, Bool.not_false, Bool.false_eq_true, Bool.not_eq_true, decide_eq_true_eq, Nat.reduceAdd, Nat.reduceLeDiff, Nat.reduceEqDiff, Nat.reduceSub, Nat.reduceMul, Int.reduceLT, Int.reduceLE, Int.reduceEq, Int.reduceAdd, Int.reduceSub, Int.reduceMul, Int.reduceNeg, Int.reduceToNat, Int.reducePow, and_self, eq_self, and_true, true_and, Nat.reduceBEq, ncast, DL.sm, List.length_map]) vs.reverse (.tuple (.str w :: xs)) trivial).1
  rw [wrap_fold] at hf
  have r1 : ∀ e, r1F [.val (.int m)] e = some (rngD 0 m.toNat, e) := fun e => r1_int (smr m0 (by omega))
  have r5 : ∀ e, r1F [.val (.int 5)] e = some (rngD 0 5, e) := fun e => r1_int (by decide)
  have so := sought_eq (xs := xs) hw vs (by omega)
  have qa := qa_eq (xs := xs) hw vs (by omega) (r0 % 1000000000000000000)
  have ne : gNe (.tuple [vl vs, .tuple (.str w :: xs)]) (.tuple [vl vs, .tuple (.str w :: xs)]) = some (.val (.bool false)) :=
    (Py.tuple (n := 20) (.cons ((Py.list (n := 0) (Pys.of fun d hd => by obtain ⟨i, _, rfl⟩ := List.mem_map.mp hd; exact .int)).mono (by omega)) (.cons hp2 .nil))).gNe (by omega)
  have pa : Py 3 (atomD (r0 % 1000000000000000000) vs) := Py.tuple (.cons (.str (by decide +kernel)) (.cons (Py.tuple (.cons (symP _ _ _) (.cons ((Py.tuple (n := 0) (Pys.of fun d hd => by obtain ⟨i, _, rfl⟩ := List.mem_map.mp hd; exact .int))) .nil))) .nil))
  have eq : gEq (dueD (r0 % 1000000000000000000) vs (.tuple (.str w :: xs))) (dueD (r0 % 1000000000000000000) vs (.tuple (.str w :: xs))) = some (.val (.bool true)) :=
    (Py.tuple (n := 26) (.cons (.str (by decide +kernel)) (.cons ((wrap_py (by decide +kernel) (Py.tuple (n := 20) (.cons (.str (by decide +kernel)) (.cons hp2 (.cons (pa.mono (by omega)) .nil)))) vs).mono (by omega)) (.cons ((wrap_py (by decide +kernel) (Py.tuple (n := 3) (.cons (.str (by decide +kernel)) (.cons pa .nil))) vs).mono (by omega)) .nil)))).gEq (by omega)
  have e := @rfl _ (m_law F_question_axiom F__law_bound F_sought F__law_tree F__law_digit F__law_state [.val (scr ns), .no, .no, .no, .no, .no, .no, .no, .no, .no, .no])
  have h3' := h3
  simp only [List.map_nil] at h3'
  conv at e => rhs; simp only [m_law, iSeq_ev, sq_next, sq_ret, sq_brk, sq_cont, iNext_ev, iAsg_ev, as_val, as_new_t, as_new_f, setV_ev, set_no, set_val, set_own, iVar_ev, va_val, va_own, look_ev, lo_own, look_val, look_new, vis_val, vis_new, pub_val, pub_new, pub_own, opd_ap, iCon_ap, iBin_ap, iUn_ap, argN_ap, argC_ap, looks_nil, looks_cons, viss_nil, viss_cons, iCB_ap, iTup_ap, iLst_ap, isB_ap, isI_ap, iTst_ap, iTru_ap, iNotT_ap, iAndT_ap, iOrT_ap, iAnd_ap, iOr_ap, iNot_ap, iIf_ap, iSl_ap, iNoP_ap, iPart_ap, iIsi_ap, iIfS_ev, iRet_ev, ret_val', ret_new', ret_own', ro_own, iRetN_ev, iDrop_ev, iBrk_ev, iCont_ev, iBef_ev, iAft_ev, wfl_next, wfl_cont, wfl_brk, wfl_ret, wipe_nil, wipe_cons, wp_no, wp_val, wp_own, iNm_ev, iGT_tup, iGT_list, iGN_ev, iGC_ev, iAsgT_ev, iCall_ev, sls_nil, sls_val, sls_own, dup_nil, dup_val, dup_own, has_nil, has_val, has_own, now_val, now_new, back_ev, bg_nil, bg_cons, bs_no, bs_val, bs_own, bsf_some, bsf_none, b1_nil, b1_val, b1_own, iApp_ev, ap1_list, apF_list, iExU_ev, exF_list, exV_new, exV_tup, iPop_ev, po_snoc, iStL_ev, iFrz_ev, fz_own, fz_val, iRev_ev, gRev_list, gRev_tup, iSeqI_ev, iRevI_ev, iEnumU_ev, iR1_ev, turn_ev, at0, at1, at2, ix0, ix1, ix2, gAdd_int, gAdd_str, gAdd_tup, gSub_int, gMul_int, gMulR_int, gMulL_int, gDiv_int, gMod_int, gPow_int, gNeg_int, gLt_int, gLe_int, gGt_int, gGe_int, gEq_int, gNe_int, gEq_str, gNe_str, gEq_bool, gNe_bool, gIs_ap, gIsN_ap, isNone_none, isNone_int, isNone_tup, isNone_str, gIx_list, gIx_tup, gSl_tup, gSl_list, c1_ap, gLen_list, gLen_tup, gInt_int, gList_list, gList_tup, gTuple_list, gTuple_tup, truD_none, truD_bool, truD_int, truD_list, truD_tup, isi_int_int, isi_int_tup, isi_bool_bool, isi_tup_tup, isi_list_list, isi_bool_int, Option.bind_some, Option.map_some, List.getElem?_cons_zero, List.getElem?_cons_succ, List.set_cons_zero, List.set_cons_succ, List.length_cons, List.length_nil, if_true, reduceIte, decide_true, decide_false, Bool.true_and, Bool.and_true, Bool.not_true, Bool.not_false, Bool.false_eq_true, Bool.not_eq_true, decide_eq_true_eq, Nat.reduceAdd, Nat.reduceLeDiff, Nat.reduceEqDiff, Nat.reduceSub, Nat.reduceMul, Int.reduceLT, Int.reduceLE, Int.reduceEq, Int.reduceAdd, Int.reduceSub, Int.reduceMul, Int.reduceNeg, Int.reduceToNat, Int.reducePow, and_self, eq_self, and_true, true_and, Nat.reduceBEq, ncast, DL.sm, List.length_map, h1, iLc, h2, r1, h3', h4', r5, iFor_ev, h5, rev_map, hf, so, ne, hr0, bound_eq, qa, eq]
  exact ⟨_, run_ret (n := 1) (N := 11) (sls := [.val (scr ns)]) e rfl⟩
section
variable {P : Program} {w : World} {K : PySem.W.Frag} {mg : Str → Option Value} {base : Heap}
theorem ok_answer {a : Addr} {fd : FuncData} {k : Nat} (F : Fun K "answer" "answer" (top 2) a fd) {t_ANSWER_KIND : Tok} (C_ANSWER_KIND : mg "ANSWER_KIND" = some (.int 5 t_ANSWER_KIND)) :
    FnOk P w K mg base CX0 (k + 1) a fd ["a"] (spF K 1 (f_answer )) := by
  have nd := sc_answer.nd
  exact def_ok F sc_answer fun cdv A outer s H E hr =>
    (bdOne (stRet (pdTup (adCons (pdGlob (by rfl) C_ANSWER_KIND relI (.int _)) (adCons (pdVar 0) (adCons pdInt adNil))))))
theorem ok_quantified {a : Addr} {fd : FuncData} {k : Nat} (F : Fun K "quantified" "quantified" (top 4) a fd)  :
    FnOk P w K mg base CX0 (k + 1) a fd ["word", "bound", "formula"] (spF K 3 (f_quantified )) := by
  have nd := sc_quantified.nd
  exact def_ok F sc_quantified fun cdv A outer s H E hr =>
    (bdCons (stAsg false 3 nd (pdVar 2)) (bdCons (stAft [4] (stBef [4] (stFor rfl (iwSeq (pdRev (pdVar 1))).d (gdName 4 nd) (bdAft [4] (bdOne (stAsg false 3 nd (pdTup (adCons (pdVar 0) (adCons (pdVar 4) (adCons (pdVar 3) adNil))))))) PassesOwn.never))) (bdOne (stRet (pdVar 3)))))
theorem ok_sought {a : Addr} {fd : FuncData} {k : Nat} (F : Fun K "sought" "sought" (top 6) a fd)  :
    FnOk P w K mg base CX0 (k + 1) a fd ["formula"] (spF K 1 (f_sought )) := by
  have nd := sc_sought.nd
  exact def_ok F sc_sought fun cdv A outer s H E hr =>
    (bdCons (stAsg true 1 nd (pdLst adNil)) (bdCons (stAsg false 2 nd (pdVar 0)) (bdCons (stWhile 1000000 (tdC (oEq hr) (nomark _) (pdIx (pdVar 2) pdInt) pdStr) (bdCons (stApp 1 (pdIx (pdVar 2) pdInt)) (bdOne (stAsg false 2 nd (pdIx (pdVar 2) pdInt)))) PassesOwn.never) (bdFrz 1 (bdOne (stRet (pdTup (adCons (pdVar 1) (adCons (pdVar 2) adNil)))))))))
theorem ok_question_axiom {a : Addr} {fd : FuncData} {k : Nat} (F : Fun K "question_axiom" "question_axiom" (top 7) a fd) {A_quantified : Addr} {D_quantified : FuncData} {g_quantified : Fn} (G_quantified : FnOk P w K mg base CX0 k A_quantified D_quantified ["word", "bound", "formula"] (spF K 3 g_quantified)) (M_quantified : mg "quantified" = some (.ref A_quantified)) (P_quantified : PySem.W.keepIn K (.ref A_quantified) = true) (B_quantified : Binds K D_quantified ["word", "bound", "formula"] []) {A_answer : Addr} {D_answer : FuncData} {g_answer : Fn} (G_answer : FnOk P w K mg base CX0 k A_answer D_answer ["a"] (spF K 1 g_answer)) (M_answer : mg "answer" = some (.ref A_answer)) (P_answer : PySem.W.keepIn K (.ref A_answer) = true) (B_answer : Binds K D_answer ["a"] []) {A_sought : Addr} {D_sought : FuncData} {g_sought : Fn} (G_sought : FnOk P w K mg base CX0 k A_sought D_sought ["formula"] (spF K 1 g_sought)) (M_sought : mg "sought" = some (.ref A_sought)) (P_sought : PySem.W.keepIn K (.ref A_sought) = true) (B_sought : Binds K D_sought ["formula"] []) (Z_tuple : mg "tuple" = none) :
    FnOk P w K mg base CX0 (k + 1) a fd ["number", "formula"] (spF K 2 (f_question_axiom g_quantified g_answer g_sought)) := by
  have nd := sc_question_axiom.nd
  exact def_ok F sc_question_axiom fun cdv A outer s H E hr =>
    (bdCons (stAsgT (gdTup rfl (gsCons (gdName 2 nd) (gsCons (gdName 3 nd) gsNil))) (pdCall G_sought hr (by rfl) M_sought P_sought B_sought (adCons (pdVar 1) adNil) (argLenS argLen0))) (bdCons (stAsg false 4 nd (pdTup (adCons pdStr (adCons (pdTup (adCons (pdCall G_answer hr (by rfl) M_answer P_answer B_answer (adCons (pdVar 0) adNil) (argLenS argLen0)) (adCons (bTuple Z_tuple (by rfl) (adCons (pdVar 2) adNil)) adNil))) adNil)))) (bdCons (stAsg false 5 nd (pdCall G_quantified hr (by rfl) M_quantified P_quantified B_quantified (adCons pdStr (adCons (pdVar 2) (adCons (pdTup (adCons pdStr (adCons (pdVar 3) (adCons (pdVar 4) adNil)))) adNil))) (argLenS (argLenS (argLenS argLen0))))) (bdOne (stRet (pdTup (adCons pdStr (adCons (pdVar 5) (adCons (pdCall G_quantified hr (by rfl) M_quantified P_quantified B_quantified (adCons pdStr (adCons (pdVar 2) (adCons (pdTup (adCons pdStr (adCons (pdVar 4) adNil))) adNil))) (argLenS (argLenS (argLenS argLen0)))) adNil)))))))))
theorem ok__law_rows {a : Addr} {fd : FuncData} {k : Nat} (F : Fun K "_law_rows" "_law_rows" (top 9) a fd) (Z_range : mg "range" = none) (Z_len : mg "len" = none) (Z_int : mg "int" = none) :
    FnOk P w K mg base CX0 (k + 1) a fd ["script", "count"] (spF K 2 (f__law_rows )) := by
  have nd := sc__law_rows.nd
  exact def_ok F sc__law_rows fun cdv A outer s H E hr =>
    (bdCons (stAsg true 2 nd (pdLst adNil)) (bdCons (stAft [3, 4] (stBef [3, 4] (stFor rfl (idR1 (by rfl) Z_range (adCons (pdVar 1) adNil)) (gdName 3 nd) (bdAft [3, 4] (bdCons (stAsg false 4 nd pdInt) (bdCons (stIf (tdC oGt (nomark _) (bLen Z_len (by rfl) (adCons (pdVar 0) adNil)) pdInt) (bdOne (stAsg false 4 nd (bInt Z_int (by rfl) (adCons (pdIx (pdVar 0) (pdMod (bInt Z_int (by rfl) (adCons (pdVar 3) adNil)) (bLen Z_len (by rfl) (adCons (pdVar 0) adNil)))) adNil)))) bdNil) (bdCons (stIf (tdC (oLt hr) (nomark _) (pdVar 4) pdInt) (bdOne (stAsg false 4 nd (pdSub pdInt (pdMulL pdInt (pdVar 4))))) bdNil) (bdCons (stIf (tdW (wdO (tdC oGe (nomark _) (pdVar 3) (bLen Z_len (by rfl) (adCons (pdVar 0) adNil))) (wdO1 (tdC (oLt hr) (nomark _) (pdVar 4) pdInt)))) (bdCons (stAsg false 4 nd (pdMod (bInt Z_int (by rfl) (adCons (pdMulR (pdAdd (pdAdd (pdVar 4) (pdMulL pdInt (pdVar 3))) pdInt) pdInt) adNil)) pdInt)) (bdOne (stAsg false 4 nd (pdMod (bInt Z_int (by rfl) (adCons (pdMulR (pdAdd (pdAdd (pdVar 4) (pdMulL pdInt (pdVar 3))) pdInt) pdInt) adNil)) pdInt)))) bdNil) (bdOne (stApp 2 (pdVar 4)))))))) PassesOwn.never))) (bdOne (stRet (pdVar 2)))))
theorem ok__law_digit {a : Addr} {fd : FuncData} {k : Nat} (F : Fun K "_law_digit" "_law_digit" (top 10) a fd) (Z_int : mg "int" = none) (Z_len : mg "len" = none) :
    FnOk P w K mg base CX0 (k + 1) a fd ["state", "many"] (spF K 2 (f__law_digit )) := by
  have nd := sc__law_digit.nd
  exact def_ok F sc__law_digit fun cdv A outer s H E hr =>
    (bdCons (stIf (tdC (oLt hr) (nomark _) (pdIx (pdVar 0) pdInt) (pdVar 1)) (bdCons (stStL 0 (pdAdd (pdIx (pdVar 0) pdInt) pdInt) pdInt) (bdOne (stStL 0 (pdAdd (pdIx (pdVar 0) pdInt) (pdIx (pdIx (pdVar 0) pdInt) (pdMod (bInt Z_int (by rfl) (adCons (pdIx (pdVar 0) pdInt) adNil)) (bLen Z_len (by rfl) (adCons (pdIx (pdVar 0) pdInt) adNil))))) pdInt))) bdNil) (bdCons (stAsg false 2 nd (pdMod (bInt Z_int (by rfl) (adCons (pdIx (pdVar 0) pdInt) adNil)) (pdVar 1))) (bdCons (stStL 0 (pdDiv (pdIx (pdVar 0) pdInt) (pdVar 1)) pdInt) (bdOne (stRet (pdVar 2))))))
theorem ok__law_state {a : Addr} {fd : FuncData} {k : Nat} (F : Fun K "_law_state" "_law_state" (top 11) a fd) {A__law_rows : Addr} {D__law_rows : FuncData} {g__law_rows : Fn} (G__law_rows : FnOk P w K mg base CX0 k A__law_rows D__law_rows ["script", "count"] (spF K 2 g__law_rows)) (M__law_rows : mg "_law_rows" = some (.ref A__law_rows)) (P__law_rows : PySem.W.keepIn K (.ref A__law_rows) = true) (B__law_rows : Binds K D__law_rows ["script", "count"] []) :
    FnOk P w K mg base CX0 (k + 1) a fd ["script"] (spF K 1 (f__law_state g__law_rows)) := by
  have nd := sc__law_state.nd
  exact def_ok F sc__law_state fun cdv A outer s H E hr =>
    (bdCons (stAsg false 1 nd (pdCall G__law_rows hr (by rfl) M__law_rows P__law_rows B__law_rows (adCons (pdVar 0) (adCons pdInt adNil)) (argLenS (argLenS argLen0)))) (bdOne (stRet (pdLst (adCons (pdIx (pdVar 1) pdInt) (adCons (pdVar 1) (adCons pdInt adNil)))))))
theorem ok__law_tree_term {a : Addr} {fd : FuncData} {k : Nat} (F : Fun K "_law_tree_term" "_law_tree_term" (top 12) a fd) {A__law_digit : Addr} {D__law_digit : FuncData} {g__law_digit : Fn} (G__law_digit : FnOk P w K mg base CX0 k A__law_digit D__law_digit ["state", "many"] (spF K 2 g__law_digit)) (M__law_digit : mg "_law_digit" = some (.ref A__law_digit)) (P__law_digit : PySem.W.keepIn K (.ref A__law_digit) = true) (B__law_digit : Binds K D__law_digit ["state", "many"] []) {A__law_tree_term : Addr} {D__law_tree_term : FuncData} {g__law_tree_term : Fn} (G__law_tree_term : FnOk P w K mg base CX0 k A__law_tree_term D__law_tree_term ["state", "depth", "bound"] (spF K 3 g__law_tree_term)) (M__law_tree_term : mg "_law_tree_term" = some (.ref A__law_tree_term)) (P__law_tree_term : PySem.W.keepIn K (.ref A__law_tree_term) = true) (B__law_tree_term : Binds K D__law_tree_term ["state", "depth", "bound"] []) :
    FnOk P w K mg base CX0 (k + 1) a fd ["state", "depth", "bound"] (spF K 3 (f__law_tree_term g__law_digit g__law_tree_term)) := by
  have nd := sc__law_tree_term.nd
  exact def_ok F sc__law_tree_term fun cdv A outer s H E hr =>
    (bdCons (stAsg false 3 nd (pdCall G__law_digit hr (by rfl) M__law_digit P__law_digit B__law_digit (adCons (pdVar 0) (adCons pdInt adNil)) (argLenS (argLenS argLen0)))) (bdCons (stIf (tdW (wdA (tdC (oLt hr) (nomark _) (pdVar 3) pdInt) (wdA1 (tdC oGt (nomark _) (pdVar 2) pdInt)))) (bdOne (stRet (pdCall G__law_digit hr (by rfl) M__law_digit P__law_digit B__law_digit (adCons (pdVar 0) (adCons (pdVar 2) adNil)) (argLenS (argLenS argLen0))))) bdNil) (bdCons (stIf (tdW (wdA (tdC (oEq hr) (nomark _) (pdVar 3) pdInt) (wdA1 (tdC oGt (nomark _) (pdVar 1) pdInt)))) (bdOne (stRet (pdTup (adCons (pdTup (adCons pdInt (adCons pdInt (adCons pdInt adNil)))) (adCons (pdTup (adCons (pdCall G__law_tree_term hr (by rfl) M__law_tree_term P__law_tree_term B__law_tree_term (adCons (pdVar 0) (adCons (pdSub (pdVar 1) pdInt) (adCons (pdVar 2) adNil))) (argLenS (argLenS (argLenS argLen0)))) adNil)) adNil))))) bdNil) (bdOne (stRet (pdTup (adCons (pdTup (adCons pdInt (adCons (pdCall G__law_digit hr (by rfl) M__law_digit P__law_digit B__law_digit (adCons (pdVar 0) (adCons pdInt adNil)) (argLenS (argLenS argLen0))) (adCons pdInt adNil)))) (adCons (pdTup adNil) adNil))))))))
theorem ok__law_tree {a : Addr} {fd : FuncData} {k : Nat} (F : Fun K "_law_tree" "_law_tree" (top 13) a fd) {A__law_tree : Addr} {D__law_tree : FuncData} {g__law_tree : Fn} (G__law_tree : FnOk P w K mg base CX0 k A__law_tree D__law_tree ["state", "depth", "bound"] (spF K 3 g__law_tree)) (M__law_tree : mg "_law_tree" = some (.ref A__law_tree)) (P__law_tree : PySem.W.keepIn K (.ref A__law_tree) = true) (B__law_tree : Binds K D__law_tree ["state", "depth", "bound"] []) {A__law_digit : Addr} {D__law_digit : FuncData} {g__law_digit : Fn} (G__law_digit : FnOk P w K mg base CX0 k A__law_digit D__law_digit ["state", "many"] (spF K 2 g__law_digit)) (M__law_digit : mg "_law_digit" = some (.ref A__law_digit)) (P__law_digit : PySem.W.keepIn K (.ref A__law_digit) = true) (B__law_digit : Binds K D__law_digit ["state", "many"] []) {A__law_tree_term : Addr} {D__law_tree_term : FuncData} {g__law_tree_term : Fn} (G__law_tree_term : FnOk P w K mg base CX0 k A__law_tree_term D__law_tree_term ["state", "depth", "bound"] (spF K 3 g__law_tree_term)) (M__law_tree_term : mg "_law_tree_term" = some (.ref A__law_tree_term)) (P__law_tree_term : PySem.W.keepIn K (.ref A__law_tree_term) = true) (B__law_tree_term : Binds K D__law_tree_term ["state", "depth", "bound"] []) :
    FnOk P w K mg base CX0 (k + 1) a fd ["state", "depth", "bound"] (spF K 3 (f__law_tree g__law_tree g__law_digit g__law_tree_term)) := by
  have nd := sc__law_tree.nd
  exact def_ok F sc__law_tree fun cdv A outer s H E hr =>
    (bdCons (stAsg false 3 nd (pdCall G__law_digit hr (by rfl) M__law_digit P__law_digit B__law_digit (adCons (pdVar 0) (adCons pdInt adNil)) (argLenS (argLenS argLen0)))) (bdCons (stAft [5] (stIf (tdW (wdO (tdC (oEq hr) (nomark _) (pdVar 1) pdInt) (wdO1 (tdC (oLt hr) (nomark _) (pdVar 3) pdInt)))) (bdCons (stAsg false 5 nd (pdCall G__law_digit hr (by rfl) M__law_digit P__law_digit B__law_digit (adCons (pdVar 0) (adCons pdInt adNil)) (argLenS (argLenS argLen0)))) (bdCons (stIf (tdC (oEq hr) (nomark _) (pdVar 5) pdInt) (bdOne (stRet (pdTup (adCons pdStr (adCons (pdTup (adCons (pdTup (adCons pdInt (adCons pdInt (adCons pdInt adNil)))) (adCons (pdTup adNil) adNil))) adNil))))) bdNil) (bdCons (stIf (tdC (oEq hr) (nomark _) (pdVar 5) pdInt) (bdOne (stRet (pdTup (adCons pdStr (adCons (pdCall G__law_tree_term hr (by rfl) M__law_tree_term P__law_tree_term B__law_tree_term (adCons (pdVar 0) (adCons pdInt (adCons (pdVar 2) adNil))) (argLenS (argLenS (argLenS argLen0)))) (adCons (pdCall G__law_tree_term hr (by rfl) M__law_tree_term P__law_tree_term B__law_tree_term (adCons (pdVar 0) (adCons pdInt (adCons (pdVar 2) adNil))) (argLenS (argLenS (argLenS argLen0)))) adNil)))))) bdNil) (bdOne (stRet (pdTup (adCons pdStr (adCons (pdTup (adCons (pdTup (adCons pdInt (adCons pdInt (adCons pdInt adNil)))) (adCons (pdTup (adCons (pdCall G__law_tree_term hr (by rfl) M__law_tree_term P__law_tree_term B__law_tree_term (adCons (pdVar 0) (adCons pdInt (adCons (pdVar 2) adNil))) (argLenS (argLenS (argLenS argLen0)))) adNil)) adNil))) adNil)))))))) bdNil)) (bdCons (stIf (tdC (oEq hr) (nomark _) (pdVar 3) pdInt) (bdOne (stRet (pdTup (adCons pdStr (adCons (pdCall G__law_tree hr (by rfl) M__law_tree P__law_tree B__law_tree (adCons (pdVar 0) (adCons (pdSub (pdVar 1) pdInt) (adCons (pdVar 2) adNil))) (argLenS (argLenS (argLenS argLen0)))) adNil))))) bdNil) (bdCons (stIf (tdC (oLt hr) (nomark _) (pdVar 3) pdInt) (bdOne (stRet (pdTup (adCons (pdIx (pdTup (adCons pdStr (adCons pdStr adNil))) (pdCall G__law_digit hr (by rfl) M__law_digit P__law_digit B__law_digit (adCons (pdVar 0) (adCons pdInt adNil)) (argLenS (argLenS argLen0)))) (adCons (pdVar 2) (adCons (pdCall G__law_tree hr (by rfl) M__law_tree P__law_tree B__law_tree (adCons (pdVar 0) (adCons (pdSub (pdVar 1) pdInt) (adCons (pdAdd (pdVar 2) pdInt) adNil))) (argLenS (argLenS (argLenS argLen0)))) adNil)))))) bdNil) (bdCons (stAsg false 4 nd (pdIx (pdTup (adCons pdStr (adCons pdStr (adCons pdStr (adCons pdStr adNil))))) (pdCall G__law_digit hr (by rfl) M__law_digit P__law_digit B__law_digit (adCons (pdVar 0) (adCons pdInt adNil)) (argLenS (argLenS argLen0))))) (bdOne (stRet (pdTup (adCons (pdVar 4) (adCons (pdCall G__law_tree hr (by rfl) M__law_tree P__law_tree B__law_tree (adCons (pdVar 0) (adCons (pdSub (pdVar 1) pdInt) (adCons (pdVar 2) adNil))) (argLenS (argLenS (argLenS argLen0)))) (adCons (pdCall G__law_tree hr (by rfl) M__law_tree P__law_tree B__law_tree (adCons (pdVar 0) (adCons (pdSub (pdVar 1) pdInt) (adCons (pdVar 2) adNil))) (argLenS (argLenS (argLenS argLen0)))) adNil)))))))))))
theorem ok__law_bound {a : Addr} {fd : FuncData} {k : Nat} (F : Fun K "_law_bound" "_law_bound" (top 14) a fd) (Z_reversed : mg "reversed" = none) :
    FnOk P w K mg base CX0 (k + 1) a fd ["variables", "formula"] (spF K 2 (f__law_bound )) := by
  have nd := sc__law_bound.nd
  exact def_ok F sc__law_bound fun cdv A outer s H E hr =>
    (bdCons (stAft [2] (stBef [2] (stFor rfl (iwRev (by rfl) Z_reversed (pdVar 0)).d (gdName 2 nd) (bdAft [2] (bdOne (stAsg false 1 nd (pdTup (adCons pdStr (adCons (pdVar 2) (adCons (pdVar 1) adNil))))))) PassesOwn.never))) (bdOne (stRet (pdVar 1))))
theorem ok_law {a : Addr} {fd : FuncData} {k : Nat} (F : Fun K "law" "law" (top 15) a fd) {A_question_axiom : Addr} {D_question_axiom : FuncData} {g_question_axiom : Fn} (G_question_axiom : FnOk P w K mg base CX0 k A_question_axiom D_question_axiom ["number", "formula"] (spF K 2 g_question_axiom)) (M_question_axiom : mg "question_axiom" = some (.ref A_question_axiom)) (P_question_axiom : PySem.W.keepIn K (.ref A_question_axiom) = true) (B_question_axiom : Binds K D_question_axiom ["number", "formula"] []) {A__law_bound : Addr} {D__law_bound : FuncData} {g__law_bound : Fn} (G__law_bound : FnOk P w K mg base CX0 k A__law_bound D__law_bound ["variables", "formula"] (spF K 2 g__law_bound)) (M__law_bound : mg "_law_bound" = some (.ref A__law_bound)) (P__law_bound : PySem.W.keepIn K (.ref A__law_bound) = true) (B__law_bound : Binds K D__law_bound ["variables", "formula"] []) {A_sought : Addr} {D_sought : FuncData} {g_sought : Fn} (G_sought : FnOk P w K mg base CX0 k A_sought D_sought ["formula"] (spF K 1 g_sought)) (M_sought : mg "sought" = some (.ref A_sought)) (P_sought : PySem.W.keepIn K (.ref A_sought) = true) (B_sought : Binds K D_sought ["formula"] []) {A__law_tree : Addr} {D__law_tree : FuncData} {g__law_tree : Fn} (G__law_tree : FnOk P w K mg base CX0 k A__law_tree D__law_tree ["state", "depth", "bound"] (spF K 3 g__law_tree)) (M__law_tree : mg "_law_tree" = some (.ref A__law_tree)) (P__law_tree : PySem.W.keepIn K (.ref A__law_tree) = true) (B__law_tree : Binds K D__law_tree ["state", "depth", "bound"] []) {A__law_digit : Addr} {D__law_digit : FuncData} {g__law_digit : Fn} (G__law_digit : FnOk P w K mg base CX0 k A__law_digit D__law_digit ["state", "many"] (spF K 2 g__law_digit)) (M__law_digit : mg "_law_digit" = some (.ref A__law_digit)) (P__law_digit : PySem.W.keepIn K (.ref A__law_digit) = true) (B__law_digit : Binds K D__law_digit ["state", "many"] []) {A__law_state : Addr} {D__law_state : FuncData} {g__law_state : Fn} (G__law_state : FnOk P w K mg base CX0 k A__law_state D__law_state ["script"] (spF K 1 g__law_state)) (M__law_state : mg "_law_state" = some (.ref A__law_state)) (P__law_state : PySem.W.keepIn K (.ref A__law_state) = true) (B__law_state : Binds K D__law_state ["script"] []) (Z_tuple : mg "tuple" = none) (Z_int : mg "int" = none) (Z_isinstance : mg "isinstance" = none) (Z_reversed : mg "reversed" = none) (Z_range : mg "range" = none) :
    FnOk P w K mg base CX0 (k + 1) a fd ["script"] (spF K 1 (f_law g_question_axiom g__law_bound g_sought g__law_tree g__law_digit g__law_state)) := by
  have nd := sc_law.nd
  exact def_ok F sc_law fun cdv A outer s H E hr =>
    (bdCons (stAsg true 1 nd (pdCall G__law_state hr (by rfl) M__law_state P__law_state B__law_state (adCons (pdVar 0) adNil) (argLenS argLen0))) (bdCons (stAsgLc (own := [("k", 4)]) false 2 rfl nd rfl rfl (sw_true rfl rfl rfl (by decide +kernel)) (idR1 (by rfl) Z_range (adCons (pdCall G__law_digit hr (by rfl) M__law_digit P__law_digit B__law_digit (adCons (pdVar 1) (adCons pdInt adNil)) (argLenS (argLenS argLen0))) adNil)) (blkOk_by (N := ["script", "state", "variables", "rest", "k", "formula", "variable", "actual", "number", "atom", "due"]) (sc := defScope (top 15)) (by decide +kernel)) (fun _ _ _ _ _ => (gvName nd (by decide) (i := 4))) (fun _ _ _ _ _ => tsNil) (fun _ _ _ _ _ => (pdCall G__law_digit hr (by rfl) M__law_digit P__law_digit B__law_digit (adCons (pdVar 1) (adCons pdInt adNil)) (argLenS (argLenS argLen0))))) (bdCons (stAsg false 3 nd (pdCall G__law_tree hr (by rfl) M__law_tree P__law_tree B__law_tree (adCons (pdVar 1) (adCons pdInt (adCons pdInt adNil))) (argLenS (argLenS (argLenS argLen0))))) (bdCons (stAft [4] (stBef [4] (stFor rfl (idR1 (by rfl) Z_range (adCons pdInt adNil)) (gdName 4 nd) (bdAft [4] (bdOne (stIf (tdC (oEq hr) (nomark _) (pdIx (pdVar 3) pdInt) pdStr) (bdOne (stAsg false 3 nd (pdTup (adCons pdStr (adCons (pdVar 3) adNil))))) bdNil))) PassesOwn.never))) (bdCons (stAsg false 5 nd (pdVar 3)) (bdCons (stAft [6] (stBef [6] (stFor rfl (iwRev (by rfl) Z_reversed (pdVar 2)).d (gdName 6 nd) (bdAft [6] (bdOne (stAsg false 5 nd (pdTup (adCons pdStr (adCons (pdVar 6) (adCons (pdVar 5) adNil))))))) PassesOwn.never))) (bdCons (stAsg false 7 nd (pdCall G_sought hr (by rfl) M_sought P_sought B_sought (adCons (pdVar 5) adNil) (argLenS argLen0))) (bdCons (stIf (tdW (wdO (tdNot (tdTru (bIsi (n := "tuple") Z_isinstance (by rfl) (by rfl) Z_tuple boot_tuple (pdVar 7)))) (wdO1 (tdC (oNe hr) (nomark _) (pdVar 7) (pdTup (adCons (pdVar 2) (adCons (pdVar 3) adNil))))))) (bdOne (stRet pdBool)) bdNil) (bdCons (stAsg false 8 nd (pdMod (bInt Z_int (by rfl) (adCons (pdIx (pdIx (pdVar 1) pdInt) pdInt) adNil)) pdInt)) (bdCons (stAsg false 9 nd (pdTup (adCons pdStr (adCons (pdTup (adCons (pdTup (adCons pdInt (adCons (pdVar 8) (adCons pdInt adNil)))) (adCons (bTuple Z_tuple (by rfl) (adCons (pdVar 2) adNil)) adNil))) adNil)))) (bdCons (stAsg false 10 nd (pdTup (adCons pdStr (adCons (pdCall G__law_bound hr (by rfl) M__law_bound P__law_bound B__law_bound (adCons (pdVar 2) (adCons (pdTup (adCons pdStr (adCons (pdVar 3) (adCons (pdVar 9) adNil)))) adNil)) (argLenS (argLenS argLen0))) (adCons (pdCall G__law_bound hr (by rfl) M__law_bound P__law_bound B__law_bound (adCons (pdVar 2) (adCons (pdTup (adCons pdStr (adCons (pdVar 9) adNil))) adNil)) (argLenS (argLenS argLen0))) adNil))))) (bdOne (stRet (pdC (oEq hr) (nomark _) (pdCall G_question_axiom hr (by rfl) M_question_axiom P_question_axiom B_question_axiom (adCons (pdVar 8) (adCons (pdVar 5) adNil)) (argLenS (argLenS argLen0))) (pdVar 10)))))))))))))))
end
theorem all_mk {l : PySem.W.OpenLaw} {w : World} {K : PySem.W.Frag} {h : Heap} {mg : Str → Option Value} {fa : Addr} (X : K.In h) (G : h.Ns mainGlobals mg) (hfa : mg "law" = some (.ref fa))
    {a_answer : Addr} {od_answer an_answer : Option Addr} {sl_answer : Array (Option Value)} {oc_answer kV_answer dc_answer pm_answer cd_answer ct_answer : Value}
    {a_quantified : Addr} {od_quantified an_quantified : Option Addr} {sl_quantified : Array (Option Value)} {oc_quantified kV_quantified dc_quantified pm_quantified cd_quantified ct_quantified : Value}
    {a_sought : Addr} {od_sought an_sought : Option Addr} {sl_sought : Array (Option Value)} {oc_sought kV_sought dc_sought pm_sought cd_sought ct_sought : Value}
    {a_question_axiom : Addr} {od_question_axiom an_question_axiom : Option Addr} {sl_question_axiom : Array (Option Value)} {oc_question_axiom kV_question_axiom dc_question_axiom pm_question_axiom cd_question_axiom ct_question_axiom : Value}
    {a__law_rows : Addr} {od__law_rows an__law_rows : Option Addr} {sl__law_rows : Array (Option Value)} {oc__law_rows kV__law_rows dc__law_rows pm__law_rows cd__law_rows ct__law_rows : Value}
    {a__law_digit : Addr} {od__law_digit an__law_digit : Option Addr} {sl__law_digit : Array (Option Value)} {oc__law_digit kV__law_digit dc__law_digit pm__law_digit cd__law_digit ct__law_digit : Value}
    {a__law_state : Addr} {od__law_state an__law_state : Option Addr} {sl__law_state : Array (Option Value)} {oc__law_state kV__law_state dc__law_state pm__law_state cd__law_state ct__law_state : Value}
    {a__law_tree_term : Addr} {od__law_tree_term an__law_tree_term : Option Addr} {sl__law_tree_term : Array (Option Value)} {oc__law_tree_term kV__law_tree_term dc__law_tree_term pm__law_tree_term cd__law_tree_term ct__law_tree_term : Value}
    {a__law_tree : Addr} {od__law_tree an__law_tree : Option Addr} {sl__law_tree : Array (Option Value)} {oc__law_tree kV__law_tree dc__law_tree pm__law_tree cd__law_tree ct__law_tree : Value}
    {a__law_bound : Addr} {od__law_bound an__law_bound : Option Addr} {sl__law_bound : Array (Option Value)} {oc__law_bound kV__law_bound dc__law_bound pm__law_bound cd__law_bound ct__law_bound : Value}
    {a_law : Addr} {od_law an_law : Option Addr} {sl_law : Array (Option Value)} {oc_law kV_law dc_law pm_law cd_law ct_law : Value}
    {t_ANSWER_KIND : Tok}
    (q1_answer : PySem.W.nsIn K mainGlobals "answer" = some (some (.ref a_answer))) (q2_answer : K.lookup a_answer = some ⟨oc_answer, od_answer, .func (PySem.W.fnOf "answer" "answer" (defArgs (top 2)) (defBody (top 2)) (defScope (top 2)) .none kV_answer dc_answer pm_answer an_answer cd_answer ct_answer), sl_answer⟩) (q3_answer : PySem.W.codeIn K cd_answer "answer" = true) (q4_answer : PySem.W.keepIn K (.ref a_answer) = true)
    (q1_quantified : PySem.W.nsIn K mainGlobals "quantified" = some (some (.ref a_quantified))) (q2_quantified : K.lookup a_quantified = some ⟨oc_quantified, od_quantified, .func (PySem.W.fnOf "quantified" "quantified" (defArgs (top 4)) (defBody (top 4)) (defScope (top 4)) .none kV_quantified dc_quantified pm_quantified an_quantified cd_quantified ct_quantified), sl_quantified⟩) (q3_quantified : PySem.W.codeIn K cd_quantified "quantified" = true) (q4_quantified : PySem.W.keepIn K (.ref a_quantified) = true)
    (q1_sought : PySem.W.nsIn K mainGlobals "sought" = some (some (.ref a_sought))) (q2_sought : K.lookup a_sought = some ⟨oc_sought, od_sought, .func (PySem.W.fnOf "sought" "sought" (defArgs (top 6)) (defBody (top 6)) (defScope (top 6)) .none kV_sought dc_sought pm_sought an_sought cd_sought ct_sought), sl_sought⟩) (q3_sought : PySem.W.codeIn K cd_sought "sought" = true) (q4_sought : PySem.W.keepIn K (.ref a_sought) = true)
    (q1_question_axiom : PySem.W.nsIn K mainGlobals "question_axiom" = some (some (.ref a_question_axiom))) (q2_question_axiom : K.lookup a_question_axiom = some ⟨oc_question_axiom, od_question_axiom, .func (PySem.W.fnOf "question_axiom" "question_axiom" (defArgs (top 7)) (defBody (top 7)) (defScope (top 7)) .none kV_question_axiom dc_question_axiom pm_question_axiom an_question_axiom cd_question_axiom ct_question_axiom), sl_question_axiom⟩) (q3_question_axiom : PySem.W.codeIn K cd_question_axiom "question_axiom" = true) (q4_question_axiom : PySem.W.keepIn K (.ref a_question_axiom) = true)
    (q1__law_rows : PySem.W.nsIn K mainGlobals "_law_rows" = some (some (.ref a__law_rows))) (q2__law_rows : K.lookup a__law_rows = some ⟨oc__law_rows, od__law_rows, .func (PySem.W.fnOf "_law_rows" "_law_rows" (defArgs (top 9)) (defBody (top 9)) (defScope (top 9)) .none kV__law_rows dc__law_rows pm__law_rows an__law_rows cd__law_rows ct__law_rows), sl__law_rows⟩) (q3__law_rows : PySem.W.codeIn K cd__law_rows "_law_rows" = true) (q4__law_rows : PySem.W.keepIn K (.ref a__law_rows) = true)
    (q1__law_digit : PySem.W.nsIn K mainGlobals "_law_digit" = some (some (.ref a__law_digit))) (q2__law_digit : K.lookup a__law_digit = some ⟨oc__law_digit, od__law_digit, .func (PySem.W.fnOf "_law_digit" "_law_digit" (defArgs (top 10)) (defBody (top 10)) (defScope (top 10)) .none kV__law_digit dc__law_digit pm__law_digit an__law_digit cd__law_digit ct__law_digit), sl__law_digit⟩) (q3__law_digit : PySem.W.codeIn K cd__law_digit "_law_digit" = true) (q4__law_digit : PySem.W.keepIn K (.ref a__law_digit) = true)
    (q1__law_state : PySem.W.nsIn K mainGlobals "_law_state" = some (some (.ref a__law_state))) (q2__law_state : K.lookup a__law_state = some ⟨oc__law_state, od__law_state, .func (PySem.W.fnOf "_law_state" "_law_state" (defArgs (top 11)) (defBody (top 11)) (defScope (top 11)) .none kV__law_state dc__law_state pm__law_state an__law_state cd__law_state ct__law_state), sl__law_state⟩) (q3__law_state : PySem.W.codeIn K cd__law_state "_law_state" = true) (q4__law_state : PySem.W.keepIn K (.ref a__law_state) = true)
    (q1__law_tree_term : PySem.W.nsIn K mainGlobals "_law_tree_term" = some (some (.ref a__law_tree_term))) (q2__law_tree_term : K.lookup a__law_tree_term = some ⟨oc__law_tree_term, od__law_tree_term, .func (PySem.W.fnOf "_law_tree_term" "_law_tree_term" (defArgs (top 12)) (defBody (top 12)) (defScope (top 12)) .none kV__law_tree_term dc__law_tree_term pm__law_tree_term an__law_tree_term cd__law_tree_term ct__law_tree_term), sl__law_tree_term⟩) (q3__law_tree_term : PySem.W.codeIn K cd__law_tree_term "_law_tree_term" = true) (q4__law_tree_term : PySem.W.keepIn K (.ref a__law_tree_term) = true)
    (q1__law_tree : PySem.W.nsIn K mainGlobals "_law_tree" = some (some (.ref a__law_tree))) (q2__law_tree : K.lookup a__law_tree = some ⟨oc__law_tree, od__law_tree, .func (PySem.W.fnOf "_law_tree" "_law_tree" (defArgs (top 13)) (defBody (top 13)) (defScope (top 13)) .none kV__law_tree dc__law_tree pm__law_tree an__law_tree cd__law_tree ct__law_tree), sl__law_tree⟩) (q3__law_tree : PySem.W.codeIn K cd__law_tree "_law_tree" = true) (q4__law_tree : PySem.W.keepIn K (.ref a__law_tree) = true)
    (q1__law_bound : PySem.W.nsIn K mainGlobals "_law_bound" = some (some (.ref a__law_bound))) (q2__law_bound : K.lookup a__law_bound = some ⟨oc__law_bound, od__law_bound, .func (PySem.W.fnOf "_law_bound" "_law_bound" (defArgs (top 14)) (defBody (top 14)) (defScope (top 14)) .none kV__law_bound dc__law_bound pm__law_bound an__law_bound cd__law_bound ct__law_bound), sl__law_bound⟩) (q3__law_bound : PySem.W.codeIn K cd__law_bound "_law_bound" = true) (q4__law_bound : PySem.W.keepIn K (.ref a__law_bound) = true)
    (q1_law : PySem.W.nsIn K mainGlobals "law" = some (some (.ref a_law))) (q2_law : K.lookup a_law = some ⟨oc_law, od_law, .func (PySem.W.fnOf "law" "law" (defArgs (top 15)) (defBody (top 15)) (defScope (top 15)) .none kV_law dc_law pm_law an_law cd_law ct_law), sl_law⟩) (q3_law : PySem.W.codeIn K cd_law "law" = true) (q4_law : PySem.W.keepIn K (.ref a_law) = true)
    (z_tuple : PySem.W.nsIn K mainGlobals "tuple" = some none)
    (z_range : PySem.W.nsIn K mainGlobals "range" = some none)
    (z_len : PySem.W.nsIn K mainGlobals "len" = some none)
    (z_int : PySem.W.nsIn K mainGlobals "int" = some none)
    (z_reversed : PySem.W.nsIn K mainGlobals "reversed" = some none)
    (z_isinstance : PySem.W.nsIn K mainGlobals "isinstance" = some none)
    (c_ANSWER_KIND : PySem.W.nsIn K mainGlobals "ANSWER_KIND" = some (some (.int 5 t_ANSWER_KIND))) :
    ∃ fd : FuncData, (∀ (s : Shared) (v : Value), BindsTo s fd ⟨[v], []⟩ [("script", v)]) ∧ ∀ base : Heap, K.In base → base.Ns mainGlobals mg → FnOk l.prog w K mg base CX0 26 fa fd ["script"] (spF K 1 F_law) := by
  have e := hfa.symm.trans (PySem.W.mg_of X G q1_law)
  cases e
  have FF_answer := fun_mk (st := top 2) q2_answer q3_answer q4_answer
  have B_answer := FF_answer.binds (ps := ["a"]) fun _ _ _ _ _ _ us hl => match us, hl with | [_], _ => rfl
  have M_answer := PySem.W.mg_of X G q1_answer
  have FF_quantified := fun_mk (st := top 4) q2_quantified q3_quantified q4_quantified
  have B_quantified := FF_quantified.binds (ps := ["word", "bound", "formula"]) fun _ _ _ _ _ _ us hl => match us, hl with | [_, _, _], _ => rfl
  have M_quantified := PySem.W.mg_of X G q1_quantified
  have FF_sought := fun_mk (st := top 6) q2_sought q3_sought q4_sought
  have B_sought := FF_sought.binds (ps := ["formula"]) fun _ _ _ _ _ _ us hl => match us, hl with | [_], _ => rfl
  have M_sought := PySem.W.mg_of X G q1_sought
  have FF_question_axiom := fun_mk (st := top 7) q2_question_axiom q3_question_axiom q4_question_axiom
  have B_question_axiom := FF_question_axiom.binds (ps := ["number", "formula"]) fun _ _ _ _ _ _ us hl => match us, hl with | [_, _], _ => rfl
  have M_question_axiom := PySem.W.mg_of X G q1_question_axiom
  have FF__law_rows := fun_mk (st := top 9) q2__law_rows q3__law_rows q4__law_rows
  have B__law_rows := FF__law_rows.binds (ps := ["script", "count"]) fun _ _ _ _ _ _ us hl => match us, hl with | [_, _], _ => rfl
  have M__law_rows := PySem.W.mg_of X G q1__law_rows
  have FF__law_digit := fun_mk (st := top 10) q2__law_digit q3__law_digit q4__law_digit
  have B__law_digit := FF__law_digit.binds (ps := ["state", "many"]) fun _ _ _ _ _ _ us hl => match us, hl with | [_, _], _ => rfl
  have M__law_digit := PySem.W.mg_of X G q1__law_digit
  have FF__law_state := fun_mk (st := top 11) q2__law_state q3__law_state q4__law_state
  have B__law_state := FF__law_state.binds (ps := ["script"]) fun _ _ _ _ _ _ us hl => match us, hl with | [_], _ => rfl
  have M__law_state := PySem.W.mg_of X G q1__law_state
  have FF__law_tree_term := fun_mk (st := top 12) q2__law_tree_term q3__law_tree_term q4__law_tree_term
  have B__law_tree_term := FF__law_tree_term.binds (ps := ["state", "depth", "bound"]) fun _ _ _ _ _ _ us hl => match us, hl with | [_, _, _], _ => rfl
  have M__law_tree_term := PySem.W.mg_of X G q1__law_tree_term
  have FF__law_tree := fun_mk (st := top 13) q2__law_tree q3__law_tree q4__law_tree
  have B__law_tree := FF__law_tree.binds (ps := ["state", "depth", "bound"]) fun _ _ _ _ _ _ us hl => match us, hl with | [_, _, _], _ => rfl
  have M__law_tree := PySem.W.mg_of X G q1__law_tree
  have FF__law_bound := fun_mk (st := top 14) q2__law_bound q3__law_bound q4__law_bound
  have B__law_bound := FF__law_bound.binds (ps := ["variables", "formula"]) fun _ _ _ _ _ _ us hl => match us, hl with | [_, _], _ => rfl
  have M__law_bound := PySem.W.mg_of X G q1__law_bound
  have FF_law := fun_mk (st := top 15) q2_law q3_law q4_law
  have Z_tuple := PySem.W.mg_none_of X G z_tuple
  have Z_range := PySem.W.mg_none_of X G z_range
  have Z_len := PySem.W.mg_none_of X G z_len
  have Z_int := PySem.W.mg_none_of X G z_int
  have Z_reversed := PySem.W.mg_none_of X G z_reversed
  have Z_isinstance := PySem.W.mg_none_of X G z_isinstance
  have C_ANSWER_KIND := PySem.W.mg_of X G c_ANSWER_KIND
  refine ⟨PySem.W.fnOf "law" "law" (defArgs (top 15)) (defBody (top 15)) (defScope (top 15)) .none kV_law dc_law pm_law an_law cd_law ct_law, fun s v => .of_eq rfl, fun base _ _ => ?_⟩
  have G_answer : FnOk l.prog w K mg base CX0 1 _ _ ["a"] (spF K 1 F_answer) := ok_answer (k := 0) FF_answer  C_ANSWER_KIND
  have G_quantified : FnOk l.prog w K mg base CX0 1 _ _ ["word", "bound", "formula"] (spF K 3 F_quantified) := ok_quantified (k := 0) FF_quantified  
  have G_sought : FnOk l.prog w K mg base CX0 1 _ _ ["formula"] (spF K 1 F_sought) := ok_sought (k := 0) FF_sought  
  have G_question_axiom : FnOk l.prog w K mg base CX0 2 _ _ ["number", "formula"] (spF K 2 F_question_axiom) := ok_question_axiom (k := 1) FF_question_axiom (G_quantified.mono (by decide)) M_quantified q4_quantified B_quantified (G_answer.mono (by decide)) M_answer q4_answer B_answer (G_sought.mono (by decide)) M_sought q4_sought B_sought Z_tuple
  have G__law_rows : FnOk l.prog w K mg base CX0 1 _ _ ["script", "count"] (spF K 2 F__law_rows) := ok__law_rows (k := 0) FF__law_rows  Z_range Z_len Z_int
  have G__law_digit : FnOk l.prog w K mg base CX0 1 _ _ ["state", "many"] (spF K 2 F__law_digit) := ok__law_digit (k := 0) FF__law_digit  Z_int Z_len
  have G__law_state : FnOk l.prog w K mg base CX0 2 _ _ ["script"] (spF K 1 F__law_state) := ok__law_state (k := 1) FF__law_state (G__law_rows.mono (by decide)) M__law_rows q4__law_rows B__law_rows 
  have GI__law_tree_term : ∀ n, FnOk l.prog w K mg base CX0 (1 + n) _ _ ["state", "depth", "bound"] (spF K 3 (it__law_tree_term n)) := fun n => by
    induction n with
    | zero => exact fn_none.mono (Nat.zero_le _)
    | succ n ih => exact ok__law_tree_term (k := 1 + n) FF__law_tree_term (G__law_digit.mono (by omega)) M__law_digit q4__law_digit B__law_digit ih M__law_tree_term q4__law_tree_term B__law_tree_term 
  have G__law_tree_term : FnOk l.prog w K mg base CX0 13 _ _ ["state", "depth", "bound"] (spF K 3 F__law_tree_term) := GI__law_tree_term 12
  have GI__law_tree : ∀ n, FnOk l.prog w K mg base CX0 (13 + n) _ _ ["state", "depth", "bound"] (spF K 3 (it__law_tree n)) := fun n => by
    induction n with
    | zero => exact fn_none.mono (Nat.zero_le _)
    | succ n ih => exact ok__law_tree (k := 13 + n) FF__law_tree ih M__law_tree q4__law_tree B__law_tree (G__law_digit.mono (by omega)) M__law_digit q4__law_digit B__law_digit (G__law_tree_term.mono (by omega)) M__law_tree_term q4__law_tree_term B__law_tree_term 
  have G__law_tree : FnOk l.prog w K mg base CX0 25 _ _ ["state", "depth", "bound"] (spF K 3 F__law_tree) := GI__law_tree 12
  have G__law_bound : FnOk l.prog w K mg base CX0 1 _ _ ["variables", "formula"] (spF K 2 F__law_bound) := ok__law_bound (k := 0) FF__law_bound  Z_reversed
  have G_law : FnOk l.prog w K mg base CX0 26 _ _ ["script"] (spF K 1 F_law) := ok_law (k := 25) FF_law (G_question_axiom.mono (by decide)) M_question_axiom q4_question_axiom B_question_axiom (G__law_bound.mono (by decide)) M__law_bound q4__law_bound B__law_bound (G_sought.mono (by decide)) M_sought q4_sought B_sought (G__law_tree.mono (by decide)) M__law_tree q4__law_tree B__law_tree (G__law_digit.mono (by decide)) M__law_digit q4__law_digit B__law_digit (G__law_state.mono (by decide)) M__law_state q4__law_state B__law_state Z_tuple Z_int Z_isinstance Z_reversed Z_range
  exact G_law
def spLaw (K : PySem.W.Frag) : Sp := fun vs H Q _ => ∃ (a : Addr) (ns : List Int), vs = [.ref a] ∧ SqL K H a (ns.map L2.V.int) ∧ ns.length ≤ 63 ∧ ∀ H', Q (.bl true) H'
theorem to_law {K : PySem.W.Frag} (hl : ∀ ns : List Int, ns.length ≤ 63 → ∃ o, F_law [.val (.list (ns.map D.int))] = some (.val (.bool true), o)) (vs : List L2.V) (H : Hp) (Q : VK) (E : XK) (h : spLaw K vs H Q E) : spF K 1 F_law vs H Q E := by
  obtain ⟨a, ns, rfl, hS, hn, q⟩ := h
  obtain ⟨o, ho⟩ := hl ns hn
  refine ⟨rfl, H, _, _, o, ⟨rfl, Evl.Ex.refl H, fun i v s h1 h2 => ?_, fun i j p q d e l h1 => ?_⟩, ho, fun v V' H' _ r => ?_⟩
  · cases i with
    | zero => cases h1; cases h2; exact R.list hS (RA.ints ns)
    | succ i => simp at h1
  · cases i with
    | zero => cases h1
    | succ i => simp at h1
  · rw [R.isBool r]; exact q H'
theorem walk (hl : ∀ ns : List Int, ns.length ≤ 63 → ∃ o, F_law [.val (.list (ns.map D.int))] = some (.val (.bool true), o)) {l : PySem.W.OpenLaw} {q : Program} {loose : List Str} {XP : (Str → Option Value) → Heap → Prop} {YP : World → Heap → Prop} {d : DefRec} {K : Params → PySem.W.Frag}
    (hn : l.most = some 63) (hdf : d.params.defaults = []) (hY : ∀ (w : World) (h : Heap), YP w h → (K w.params).In h)
    (F : ∀ (w : World) (mg : Str → Option Value) (fa : Addr) (h : Heap), (K w.params).In h → h.Ns mainGlobals mg → mg d.name = some (.ref fa) →
      ∃ fd : FuncData, (∀ (s : Shared) (u : Value), BindsTo s fd ⟨[u], []⟩ [("script", u)]) ∧ ∀ base : Heap, (K w.params).In base → base.Ns mainGlobals mg → FnOk l.prog w (K w.params) mg base CX0 26 fa fd ["script"] (spF (K w.params) 1 F_law)) :
    PySem.W.WalkO q loose XP YP l.row.toRowW d [] (fun f vs => PySem.call f vs) :=
  L2.walk_of (n := 63) (k := 26) (x := "script") (CX := fun _ => CX0) (sp := fun w => spLaw (K w.params)) hn (by decide) hdf ⟨rfl, by decide, by decide⟩ hY
    (fun w mg fa h h1 h2 h3 => let ⟨fd, g1, g2⟩ := F w mg fa h h1 h2 h3; ⟨fd, g1, fun base b1 b2 => (g2 base b1 b2).imp (to_law hl)⟩)
    (fun _ _ a ns hl _ hS => ⟨a, ns, rfl, hS, hl, fun _ => rfl⟩) fun _ _ _ _ _ z => z
end LK65
open PySem PySem.W PyProof.Rows
set_option maxRecDepth 100000 in
set_option maxHeartbeats 0 in
theorem PySem.Challenge.cw_lastproof_k65_axioms_of_questions_holds : PySem.Challenge.rw_lastproof_k65_axioms_of_questions.Holds := by
  w_on; o_law; k_head; (case hw => w_witness2)
  k_fill
  refine LK65.walk LK65.law_holds (l := PySem.Challenge.rw_lastproof_k65_axioms_of_questions) rfl rfl (fun w h Y => PySem.W.kIn_of Y) ?F
  case F =>
    intro w mg fa h KX G hmg
    refine' LK65.all_mk KX G hmg ?q1_answer ?q2_answer ?q3_answer ?q4_answer ?q1_quantified ?q2_quantified ?q3_quantified ?q4_quantified ?q1_sought ?q2_sought ?q3_sought ?q4_sought ?q1_question_axiom ?q2_question_axiom ?q3_question_axiom ?q4_question_axiom ?q1__law_rows ?q2__law_rows ?q3__law_rows ?q4__law_rows ?q1__law_digit ?q2__law_digit ?q3__law_digit ?q4__law_digit ?q1__law_state ?q2__law_state ?q3__law_state ?q4__law_state ?q1__law_tree_term ?q2__law_tree_term ?q3__law_tree_term ?q4__law_tree_term ?q1__law_tree ?q2__law_tree ?q3__law_tree ?q4__law_tree ?q1__law_bound ?q2__law_bound ?q3__law_bound ?q4__law_bound ?q1_law ?q2_law ?q3_law ?q4_law ?z_tuple ?z_range ?z_len ?z_int ?z_reversed ?z_isinstance ?c_ANSWER_KIND
    (case q1_answer => k_is)
    (case q2_answer => k_is)
    (case q3_answer => k_is)
    (case q4_answer => k_is)
    (case q1_quantified => k_is)
    (case q2_quantified => k_is)
    (case q3_quantified => k_is)
    (case q4_quantified => k_is)
    (case q1_sought => k_is)
    (case q2_sought => k_is)
    (case q3_sought => k_is)
    (case q4_sought => k_is)
    (case q1_question_axiom => k_is)
    (case q2_question_axiom => k_is)
    (case q3_question_axiom => k_is)
    (case q4_question_axiom => k_is)
    (case q1__law_rows => k_is)
    (case q2__law_rows => k_is)
    (case q3__law_rows => k_is)
    (case q4__law_rows => k_is)
    (case q1__law_digit => k_is)
    (case q2__law_digit => k_is)
    (case q3__law_digit => k_is)
    (case q4__law_digit => k_is)
    (case q1__law_state => k_is)
    (case q2__law_state => k_is)
    (case q3__law_state => k_is)
    (case q4__law_state => k_is)
    (case q1__law_tree_term => k_is)
    (case q2__law_tree_term => k_is)
    (case q3__law_tree_term => k_is)
    (case q4__law_tree_term => k_is)
    (case q1__law_tree => k_is)
    (case q2__law_tree => k_is)
    (case q3__law_tree => k_is)
    (case q4__law_tree => k_is)
    (case q1__law_bound => k_is)
    (case q2__law_bound => k_is)
    (case q3__law_bound => k_is)
    (case q4__law_bound => k_is)
    (case q1_law => k_is)
    (case q2_law => k_is)
    (case q3_law => k_is)
    (case q4_law => k_is)
    (case z_tuple => k_is)
    (case z_range => k_is)
    (case z_len => k_is)
    (case z_int => k_is)
    (case z_reversed => k_is)
    (case z_isinstance => k_is)
    (case c_ANSWER_KIND => k_is)
